"""Nets of the words below or above a string of letters, which may have no end."""

from lexiconlines.nets import behind_others, shifted, trail, walked
from lexiconlines.nodes import PLACES
from lexiconlines.rounds import rounds


def net_below(net, word):
    """A net of the words below a string of letters."""
    return _cut(net, trail(net, 0, word), word, None, True)


def net_above(net, word):
    """A net of the words above a string of letters."""
    return _cut(net, trail(net, 0, word), word, None, False)


def net_below_rounds(net, x, y):
    """A net of the words that are below x y y y and so on without end.

    These are those that begin it, or have a smaller letter at the first place where they differ.
    No power of y may lead nowhere behind x.
    """
    nodes, letters, back = _endless_trail(net, x, y)
    return _cut(net, nodes, letters, back, True)


def net_above_rounds(net, x, y):
    """A net of the words that have a greater letter where they first differ from x y y y and so on."""
    nodes, letters, back = _endless_trail(net, x, y)
    return _cut(net, nodes, letters, back, False)


def _endless_trail(net, x, y):
    """The nodes along x y y y and so on up to a turn, the letters behind them, and the place to which it turns."""
    starts, back = rounds(net, walked(net, 0, x), y, len(net))
    letters = x + y * len(starts)
    return trail(net, 0, letters)[:-1], letters, len(x) + back * len(y)


def _cut(net, nodes, letters, back, low):
    """The net of the words on one side of a trail.

    The trail passes these nodes, each with the letter that stands at its place behind it. The
    last one has no letter if the trail ends there; otherwise the place to which it leads is back,
    or None if it leads nowhere.
    """
    many = len(nodes)
    made = []
    for at, index in enumerate(nodes):
        onward = at + 1 if at + 1 < many else back
        made.append(_cut_node(shifted(net[index], many), letters[at:at + 1], onward, low))
    return made + behind_others(net, many)


def _cut_node(node, letter, onward, low):
    """A node of the trail: its color only if words that begin the trail count and the trail goes on."""
    made = [node[0] if low and letter != "" else "", None, None, None, None]
    for other, place in PLACES.items():
        if other == letter:
            made[place] = onward
        elif (other < letter) == low:
            made[place] = node[place]
    return tuple(made)
