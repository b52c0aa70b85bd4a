"""The lines of the words of a book between two of its words, as sums of terms."""

from lexiconlines.least import least
from lexiconlines.nets import trail, walked
from lexiconlines.nodes import PLACES
from lexiconlines.plainterms import PlainTerms
from lexiconlines.terms import single


class Stretches:
    """The terms of all words between two words of a book; no exact books are made for them."""

    def __init__(self, book):
        exact = least(book)
        self._net = exact.nodes()
        self._plain = PlainTerms(exact)
        # The terms beside the children of nodes, by pairs of a node and a letter.
        self._lows = {}
        self._highs = {}

    def lines(self, low, high):
        """The list of the terms whose sum is the line of the words above low and below high.

        Both are words of the book, or None.
        """
        if low is None and high is None:
            return self._lines_of(0, [""])
        if low is None:
            return self._below(high, 0)
        if high is None:
            return self._above(low, 0)
        at = _shared_length(low, high)
        node = trail(self._net, 0, low[:at])[-1]
        middle = [letter for letter in PLACES if low[at:at + 1] < letter < high[at]]
        return self._above(low, at + 1) + self._lines_of(node, middle) + self._below(high, at + 1)

    def _below(self, word, least_length):
        """The terms of the words below a word that share its first letters, at least so many."""
        parts = []
        nodes = trail(self._net, 0, word)
        for step in list(zip(nodes, word))[least_length:]:
            if step not in self._lows:
                node, letter = step
                color = self._net[node][0]
                lines = self._lines_of(node, [other for other in PLACES if other < letter])
                self._lows[step] = ([] if color == "" else [single(color)]) + lines
            parts.extend(self._lows[step])
        return parts

    def _above(self, word, least_length):
        """The terms of the words above a word that share its first letters, at least so many."""
        if len(word) < least_length:
            return []
        nodes = trail(self._net, 0, word)
        parts = self._lines_of(nodes[-1], list(PLACES))
        for step in list(zip(nodes, word))[least_length:][::-1]:
            if step not in self._highs:
                node, letter = step
                self._highs[step] = self._lines_of(node, [other for other in PLACES if other > letter])
            parts.extend(self._highs[step])
        return parts

    def _lines_of(self, node, letters):
        """The plain terms of the nodes to which a node leads by some letters, or by the empty string."""
        nodes = [walked(self._net, node, letter) for letter in letters]
        terms = [self._plain.term(other) for other in nodes if other is not None]
        return [term for term in terms if not term.is_empty]


def _shared_length(one, other):
    """How many letters two strings share at their beginnings."""
    many = 0
    while many < min(len(one), len(other)) and one[many] == other[many]:
        many += 1
    return many
