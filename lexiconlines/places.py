"""Places of words: where they leave the class of the start."""

from lexiconlines.classways import ClassWays, class_ways
from lexiconlines.errors import NoGap
from lexiconlines.nets import trail
from lexiconlines.values import is_number
from lexiconlines.words import is_letters

_LEFT_END = ("left",)
_RIGHT_END = ("right",)


def place_of(book, word):
    """The place of a word of a book whose start is of a class."""
    ways = class_ways(book, 0)
    book.check(word)
    nodes = [node for node in trail(book.nodes(), 0, word) if ways.are_fellows(0, node)]
    # Whatever leads back into the class has not left it, so these nodes are the first ones of the trail.
    prefix = word[:len(nodes) - 1]
    letters = ways.letters(nodes[-1])
    behind = word[len(prefix):len(prefix) + 1]
    if behind == "" or behind < letters[0]:
        return _end_or_gap(ways, nodes, prefix, False)
    if behind > letters[-1]:
        return _end_or_gap(ways, nodes, prefix, True)
    low, high = [pair for pair in ways.neighbors(nodes[-1]) if pair[0] < behind < pair[1]][0]
    return ("gap", prefix, low, high)


def is_place(book, value):
    """Whether any value is a place of a book."""
    ways = ClassWays(book)
    if not ways.has_class(0):
        return False
    return value == _LEFT_END or value == _RIGHT_END or _is_gap(book, ways, value)


def place_order(book, one, other):
    """-1, 0 or 1, if one place of a book is below the other one, equal or above."""
    if one == other:
        return 0
    return -1 if _is_below(one, other) else 1


def gap_inside(book, kind, *, low=None, high=None):
    """A place that is a gap of a kind, above low and below high, as far as these are not None."""
    ways = class_ways(book, 0)
    for gap in (low, high):
        if gap is not None and not _is_gap(book, ways, gap):
            raise NoGap(gap)
    if not _is_kind(ways, kind):
        raise NoGap(kind)
    if low is not None and high is not None and place_order(book, low, high) >= 0:
        raise NoGap(high)
    node, below, above = kind
    prefix = _prefix_inside(low, high)
    return ("gap", prefix + ways.path(book.node_at(prefix), node), below, above)


def _end_or_gap(ways, nodes, prefix, last):
    """The place of a word that leaves ahead, or behind, at the last of the nodes that a prefix passes."""
    outer = -1 if last else 0
    many = len(prefix)
    while many > 0 and prefix[many - 1] == ways.letters(nodes[many - 1])[outer]:
        many -= 1
    if many == 0:
        return _RIGHT_END if last else _LEFT_END
    ahead, letter = prefix[:many - 1], prefix[many - 1]
    low, high = [pair for pair in ways.neighbors(nodes[many - 1]) if pair[0 if last else 1] == letter][0]
    return ("gap", ahead, low, high)


def _is_gap(book, ways, value):
    """Whether any value is a place that is a gap of a book whose start is of a class."""
    if not isinstance(value, tuple) or len(value) != 4 or value[0] != "gap" or not is_letters(value[1]):
        return False
    node = book.node_at(value[1])
    return node is not None and ways.are_fellows(0, node) and value[2:] in ways.neighbors(node)


def _is_kind(ways, value):
    """Whether any value is a kind of gap of the class of the start."""
    if not isinstance(value, tuple) or len(value) != 3 or not is_number(value[0]):
        return False
    return value in ways.kinds(0)


def _is_below(one, other):
    """Whether a place is below another one that is not equal to it."""
    if one == _LEFT_END or other == _RIGHT_END:
        return True
    if one == _RIGHT_END or other == _LEFT_END:
        return False
    _, prefix, low, high = one
    _, prefix2, low2, _ = other
    if prefix == prefix2:
        return low < low2
    if prefix2.startswith(prefix):
        return prefix2[len(prefix)] >= high
    if prefix.startswith(prefix2):
        return prefix[len(prefix2)] <= low2
    return prefix < prefix2


def _prefix_inside(low, high):
    """A string such that all gaps behind it are above low and below high, as far as these are not None."""
    if high is not None and (low is None or (high[1] != low[1] and high[1].startswith(low[1]))):
        return high[1] + high[2]
    return "" if low is None else low[1] + low[3]
