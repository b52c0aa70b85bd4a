"""The words of a node in parts, upward or downward in dictionary order.

A *choice* at a node is the empty string, which stands for the word that ends there, or a letter,
which stands for all words that go on with it.
"""

from lexiconlines.nodes import PLACES

_UPWARD = ("", "a", "b", "c", "d")
_DOWNWARD = ("d", "c", "b", "a", "")


def choices(up):
    """All choices at a node, in one direction."""
    return _UPWARD if up else _DOWNWARD


def choices_behind(choice, up):
    """The choices behind a choice, in one direction."""
    order = choices(up)
    return order[order.index(choice) + 1:]


def child_by(node, choice):
    """The child to which a choice that is a letter leads, or None."""
    return node[PLACES[choice]]
