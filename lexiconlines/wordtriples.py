"""The triples of the words of a book, as a table of profiles numbers them."""

from lexiconlines.listing import by_length
from lexiconlines.parting import MOST_WORDS
from lexiconlines.stretches import Stretches


class WordTriples:
    """The triples of a depth of the words of a book; each has a color and two numbers of profiles."""

    def __init__(self, book, table, depth):
        self._book = book
        self._table = table
        self._depth = depth
        self._stretches = Stretches(book)

    def of_word(self, word):
        """The triple of a word."""
        return (self._book.color_of(word), self._low(word), self._high(word))

    def first_with(self, triples):
        """The first word in short order that has one of some triples, or None if none of the first words has."""
        if not triples:
            return None
        wanted = {triple: True for triple in triples}
        colors = {color: True for color, _, _ in triples}
        lows = {(color, low): True for color, low, _ in triples}
        for word in by_length(self._book, MOST_WORDS):
            color = self._book.color_of(word)
            if color in colors and (color, self._low(word)) in lows and self.of_word(word) in wanted:
                return word
        return None

    def _low(self, word):
        return self._table.of_terms(self._stretches.lines(None, word), self._depth - 1)

    def _high(self, word):
        return self._table.of_terms(self._stretches.lines(word, None), self._depth - 1)
