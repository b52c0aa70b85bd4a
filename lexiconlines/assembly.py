"""Putting nodes together to a book with a line that is told."""

from lexiconlines.books import Book
from lexiconlines.nets import behind_others
from lexiconlines.nodes import BARE

_MOST_CHILDREN = 4


class Assembly:
    """Nodes that become a book; a part of its line is told by the node that has this line."""

    def __init__(self):
        self._net = []
        self._spots = {}

    def kept(self, many):
        """The index of the first one of so many nodes that are to be set later."""
        self._net.extend([BARE] * many)
        return len(self._net) - many

    def added(self, net):
        """The index of the start of a net whose nodes are taken in."""
        first = len(self._net)
        self._net.extend(behind_others(net, first))
        return first

    def colored(self, color):
        """A node with the line of a single spot."""
        if color not in self._spots:
            self._spots[color] = self.added([(color,) + BARE[1:]])
        return self._spots[color]

    def in_row(self, parts):
        """A node with the lines of some parts, one behind the other."""
        if len(parts) == 1:
            return parts[0]
        node = self.kept(1)
        self.set_in_row(node, parts)
        return node

    def set_in_row(self, node, parts):
        """Gives a node that was kept the lines of some parts, one behind the other."""
        # A letter may lead to further parts, as the words of that node stand together in its place.
        while len(parts) > _MOST_CHILDREN:
            further = self.added([BARE])
            self._set(further, parts[-_MOST_CHILDREN:])
            parts = parts[:-_MOST_CHILDREN] + [further]
        self._set(node, parts)

    def repeated(self, part, down):
        """A node with the line of a part repeated up, or down."""
        node = self.kept(1)
        self._set(node, [node, part] if down else [part, node])
        return node

    def shuffled(self, pieces):
        """A node with the shuffle of the lines of some pieces."""
        if not pieces:
            return self.kept(1)
        first = self.kept(len(pieces))
        behind = [first + at + 1 for at in range(len(pieces) - 1)] + [first]
        for at, piece in enumerate(pieces):
            # Each of these nodes leads back to the first one on both sides of its piece, so that
            # nothing stands beside a gap but the piece in it.
            self._set(first + at, [first, piece, behind[at]])
        return first

    def book(self, start):
        """The book that begins at a node."""
        order = [start] + [node for node in range(len(self._net)) if node != start]
        numbers = {node: at for at, node in enumerate(order)}
        return Book([_renumbered(self._net[node], numbers) for node in order])

    def _set(self, node, children):
        self._net[node] = ("",) + tuple(children + [None] * (_MOST_CHILDREN - len(children)))


def _renumbered(node, numbers):
    color, *children = node
    return (color,) + tuple([None if child is None else numbers[child] for child in children])
