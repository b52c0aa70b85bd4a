"""Exact books: books in least form, made from nets."""

from lexiconlines.books import Book
from lexiconlines.merging import Merging
from lexiconlines.nets import word_lengths
from lexiconlines.nodes import BARE


def exact_book(net):
    """The exact book with the words and colors of a net."""
    # Book itself raises TooMany with the number of nodes, as exact books must.
    return Book(least_net(net))


def least_net(net):
    """The nodes of the least form of a net, of any number."""
    trimmed = _trimmed(net)
    blocks = Merging(trimmed).blocks()
    numbers = {}
    heads = []
    # The nodes stand in the short order of the first words that lead to them, so blocks do, too.
    for at, block in enumerate(blocks):
        if block not in numbers:
            numbers[block] = len(numbers)
            heads.append(at)
    return [_renumbered(trimmed[at], blocks, numbers) for at in heads]


def _renumbered(node, blocks, numbers):
    """A node with the numbers of the blocks of its children."""
    color, *children = node
    return (color,) + tuple([None if child is None else numbers[blocks[child]] for child in children])


def _trimmed(net):
    """The nodes with words that the start leads to, in the short order of the first words that lead to them."""
    lengths = word_lengths(net)
    if lengths[0] is None:
        return [BARE]
    numbers = {0: 0}
    kept = [0]
    at = 0
    while at < len(kept):
        for child in net[kept[at]][1:]:
            if child is not None and lengths[child] is not None and child not in numbers:
                numbers[child] = len(kept)
                kept.append(child)
        at += 1
    return [(net[at][0],) + tuple([numbers.get(child) for child in net[at][1:]]) for at in kept]
