"""The plain terms of the nodes of a book, each made once."""

from lexiconlines.bounds import bounded, bounded_sum
from lexiconlines.classways import ClassWays
from lexiconlines.terms import shuffle_of, single


class PlainTerms:
    """The plain terms of a book, as far as they were asked for; each of its methods may raise TooMany."""

    def __init__(self, book):
        self._net = book.nodes()
        self._ways = ClassWays(book)
        self._has_words = [book.has_words(node) for node in range(len(self._net))]
        # All by nodes, but shuffles by the first nodes of their classes.
        self._terms = {}
        self._shuffles = {}
        self._left_sides = {}
        self._right_sides = {}

    def term(self, node):
        """The plain term of a node."""
        self._make([node])
        return self._terms[node]

    def left(self, node):
        """The term A of a node of a class."""
        lead, ring = self._ways.way(node, False)
        turn = bounded(bounded_sum([self._left_side(at) for at in ring]).up())
        return bounded_sum([self._left_side(at) for at in lead] + [turn])

    def right(self, node):
        """The term B of a node of a class."""
        lead, ring = self._ways.way(node, True)
        turn = bounded(bounded_sum([self._right_side(at) for at in ring[::-1]]).down())
        return bounded_sum([turn] + [self._right_side(at) for at in lead[::-1]])

    def pieces(self, node):
        """The list of the not empty pieces G of the class of a node, ascending by their texts."""
        lefts = {}
        rights = {}
        pieces = {}
        for at, low, high in self._ways.kinds(node):
            below = self._ways.child(at, low)
            above = self._ways.child(at, high)
            if below not in rights:
                rights[below] = self.right(below)
            if above not in lefts:
                lefts[above] = self.left(above)
            inner = self._side(self._ways.inner_children(at, low, high), "")
            piece = bounded_sum([rights[below], inner, lefts[above]])
            if not piece.is_empty:
                pieces[piece.text()] = piece
        return [pieces[text] for text in sorted(pieces)]

    def _left_side(self, node):
        if node not in self._left_sides:
            self._left_sides[node] = self._side(self._ways.left_children(node), self._net[node][0])
        return self._left_sides[node]

    def _right_side(self, node):
        if node not in self._right_sides:
            self._right_sides[node] = self._side(self._ways.right_children(node), "")
        return self._right_sides[node]

    def _side(self, children, color):
        """The sum of a color, if it is none, and the plain terms of some children."""
        self._make(children)
        spots = [] if color == "" else [single(color)]
        return bounded_sum(spots + [self._terms[child] for child in children])

    def _make(self, nodes):
        """Makes the plain terms of some nodes; what they are made of comes first, without deep calls."""
        waiting = [(node, False) for node in nodes]
        while waiting:
            node, entered = waiting.pop()
            if entered:
                self._terms[node] = self._made(node)
            elif node not in self._terms:
                waiting.append((node, True))
                waiting.extend([(child, False) for child in self._made_of(node)])

    def _made_of(self, node):
        """The nodes of other classes, or of none, of which the plain term of a node is made."""
        if not self._has_words[node]:
            return []
        nodes = self._ways.fellows(node) if self._ways.has_class(node) else [node]
        children = {child: True for at in nodes for child in self._net[at][1:] if child is not None}
        return [child for child in children if not self._ways.are_fellows(node, child)]

    def _made(self, node):
        if not self._has_words[node]:
            return bounded_sum([])
        if not self._ways.has_class(node):
            color, *children = self._net[node]
            return self._side([child for child in children if child is not None], color)
        return bounded_sum([self.left(node), self._shuffle(node), self.right(node)])

    def _shuffle(self, node):
        head = self._ways.head(node)
        if head not in self._shuffles:
            self._shuffles[head] = bounded(shuffle_of(self.pieces(node)))
        return self._shuffles[head]
