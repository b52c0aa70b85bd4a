"""Tuples of strings that fall, or rise, in a book."""

from lexiconlines.cuts import net_above, net_above_rounds, net_below, net_below_rounds
from lexiconlines.nets import walked, word_lengths
from lexiconlines.rounds import rounds
from lexiconlines.runs import first_letters
from lexiconlines.words import is_letters


def is_fall(book, value):
    """Whether any value is a tuple that falls in a book."""
    return is_row_of_words(book, value) and value[1] + value[2] < value[2]


def is_rise(book, value):
    """Whether any value is a tuple that rises in a book."""
    return is_row_of_words(book, value) and value[2] < value[1] + value[2]


def falls_to(book, word, value):
    """Whether any value is a tuple that falls to a word, or to the beginning if word is None."""
    if not is_fall(book, value) or not is_below_all(word, value):
        return False
    net = net_below_rounds(book.nodes(), value[0], value[1])
    return _is_empty(net if word is None else net_above(net, word))


def rises_to(book, word, value):
    """Whether any value is a tuple that rises to a word, or to the end if word is None."""
    if not is_rise(book, value) or not is_above_all(word, value):
        return False
    net = net_above_rounds(book.nodes(), value[0], value[1])
    return _is_empty(net if word is None else net_below(net, word))


def is_row_of_words(book, value):
    """Whether any value is a tuple (x, y, z) such that x z, x y z, x y y z and so on are words of a book."""
    if not isinstance(value, tuple) or len(value) != 3:
        return False
    if not all([is_letters(item) for item in value]) or value[1] == "":
        return False
    x, y, z = value
    net = book.nodes()
    start = walked(net, 0, x)
    if start is None:
        return False
    starts, back = rounds(net, start, y, len(net))
    ends = [walked(net, node, z) for node in starts]
    return back is not None and all([node is not None and net[node][0] != "" for node in ends])


def is_below_all(word, value):
    """Whether a string is below all words of a tuple that falls; None is."""
    # A string is below all words of the tuple if it is below x y y y and so on, or begins it.
    return word is None or word <= value[0] + first_letters(value[1], len(word))


def is_above_all(word, value):
    """Whether a string is above all words of a tuple that rises; None is."""
    return word is None or word > value[0] + first_letters(value[1], len(word))


def _is_empty(net):
    return word_lengths(net)[0] is None
