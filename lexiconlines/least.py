"""Least forms, and the first string that parts two nodes or two books."""

from lexiconlines.exact import exact_book
from lexiconlines.nets import pair_of_nodes
from lexiconlines.words import LETTERS


def least(book):
    """The book with the fewest nodes that has the same words with the same colors."""
    return exact_book(book.nodes())


def parting_word(book, one, other, *, colors=True):
    """The first string in short order that parts two nodes of a book, or None."""
    nodes = book.nodes()
    return _parting(nodes, nodes, (one, other), colors)


def first_difference(one, other, *, colors=True):
    """The first string in short order that parts the starts of two books, or None."""
    return _parting(one.nodes(), other.nodes(), (0, 0), colors)


def same_words(one, other, *, colors=True):
    """Whether no string parts the starts of two books."""
    return first_difference(one, other, colors=colors) is None


def _parting(one, other, pair, colors):
    """The first string in short order that parts a pair of nodes of two nets, or None."""
    heads = {}
    queue = [(pair, "")]
    at = 0
    while at < len(queue):
        pair, word = queue[at]
        at += 1
        # Nodes that earlier pairs make equal need no look: what would part them parts an earlier
        # pair, too, by the same letters behind an earlier string.
        if not _made_equal(heads, pair):
            continue
        left, right = pair_of_nodes(one, other, pair)
        if left[0] != right[0] and (colors or left[0] == "" or right[0] == ""):
            return word
        for letter, further in zip(LETTERS, list(zip(left[1:], right[1:]))):
            queue.append((further, word + letter))
    return None


def _made_equal(heads, pair):
    """Notes that two nodes are to be equal; whether that was not known."""
    left = _head(heads, _mark(0, pair[0]))
    right = _head(heads, _mark(1, pair[1]))
    if left == right:
        return False
    heads[left] = right
    return True


def _mark(side, node):
    """The sign of a node of a side; both sides have the same None."""
    return None if node is None else (side, node)


def _head(heads, mark):
    while mark in heads:
        mark = heads[mark]
    return mark
