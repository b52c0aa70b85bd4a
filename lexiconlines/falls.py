"""Tuples of strings that fall, or rise, in a book."""

from lexiconlines.cuts import net_above, net_above_rounds, net_below, net_below_rounds
from lexiconlines.nets import walked, word_lengths
from lexiconlines.rounds import rounds
from lexiconlines.runs import first_letters
from lexiconlines.words import is_letters


def is_fall(book, value):
    """Whether any value is a tuple that falls in a book."""
    return _is_row_of_words(book, value) and value[1] + value[2] < value[2]


def is_rise(book, value):
    """Whether any value is a tuple that rises in a book."""
    return _is_row_of_words(book, value) and value[2] < value[1] + value[2]


def falls_to(book, word, value):
    """Whether any value is a tuple that falls to a word, or to the beginning if word is None."""
    if not is_fall(book, value):
        return False
    x, y, _ = value
    net = net_below_rounds(book.nodes(), x, y)
    if word is None:
        return _is_empty(net)
    # A string is below all words of the tuple if it is below x y y y and so on, or begins it.
    return word <= x + first_letters(y, len(word)) and _is_empty(net_above(net, word))


def rises_to(book, word, value):
    """Whether any value is a tuple that rises to a word, or to the end if word is None."""
    if not is_rise(book, value):
        return False
    x, y, _ = value
    net = net_above_rounds(book.nodes(), x, y)
    if word is None:
        return _is_empty(net)
    return word > x + first_letters(y, len(word)) and _is_empty(net_below(net, word))


def _is_row_of_words(book, value):
    """Whether any value is a tuple (x, y, z) such that x z, x y z, x y y z and so on are words of a book."""
    if not isinstance(value, tuple) or len(value) != 3:
        return False
    if not all([is_letters(item) for item in value]) or value[1] == "":
        return False
    x, y, z = value
    net = book.nodes()
    start = walked(net, 0, x)
    if start is None:
        return False
    starts, back = rounds(net, start, y, len(net))
    ends = [walked(net, node, z) for node in starts]
    return back is not None and all([node is not None and net[node][0] != "" for node in ends])


def _is_empty(net):
    return word_lengths(net)[0] is None
