"""Exact books of the words between two words, and distances."""

from lexiconlines.cuts import net_above, net_below
from lexiconlines.exact import exact_book
from lexiconlines.nets import word_counts
from lexiconlines.words import check_letters


def below(book, word):
    """The words below a word."""
    check_letters(word)
    return between(book, high=word)


def above(book, word):
    """The words above a word."""
    check_letters(word)
    return between(book, low=word)


def between(book, *, low=None, high=None):
    """The words above low and below high, as far as these are not None."""
    net = book.nodes()
    for word in (low, high):
        if word is not None:
            check_letters(word)
    if low is not None:
        net = net_above(net, low)
    if high is not None:
        net = net_below(net, high)
    return exact_book(net)


def distance(book, one, other):
    """The number of steps up from one word to another one, or None if infinitely many words lie between."""
    check_letters(one)
    check_letters(other)
    book.check(one)
    book.check(other)
    if one == other:
        return 0
    low, high = min(one, other), max(one, other)
    many = word_counts(net_below(net_above(book.nodes(), low), high))[0]
    if many is None:
        return None
    return many + 1 if one < other else -many - 1
