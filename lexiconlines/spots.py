"""Single words of a line as the levels of its ladder see them.

A *view* of a word at a level is a tuple (low, sign, high): the term of all that lies below its
piece, the sign of the piece, and the term of all that lies above.
"""

from lexiconlines.blocks import BlockFolder, as_sum, joined_entries
from lexiconlines.evensets import EvenFolder, whole
from lexiconlines.rowforms import row_sign
from lexiconlines.stretches import Stretches
from lexiconlines.terms import single, sum_of


class Spots:
    """Views of the words of a book; what was folded for one word serves for others, too."""

    def __init__(self, book):
        self._book = book
        self._stretches = Stretches(book)
        self._blocks = BlockFolder()
        self._evens = EvenFolder()
        self._onward = {}

    def sign_at(self, word, level):
        """The sign of the piece of a word at a level."""
        view = self._view(word)
        for n in range(level):
            view = self._next_view(n, view)
        return view[1]

    def signs_of(self, word):
        """The signs of the pieces of a word from level 0 to the first level that has one spot."""
        view = self._view(word)
        signs = [view[1]]
        while not (view[0].is_empty and view[2].is_empty):
            view = self._next_view(len(signs) - 1, view)
            signs.append(view[1])
        return signs

    def _view(self, word):
        """The view of a word at level 0."""
        low, high = self._stretches.lines(None, word), self._stretches.lines(word, None)
        return sum_of(low), self._book.color_of(word), sum_of(high)

    def _next_view(self, n, view):
        """The view at level n + 1 from the view at level n."""
        low, sign, high = view
        place = (n % 2, low.text(), sign, high.text())
        if place not in self._onward:
            self._onward[place] = self._blocks_view(view) if n % 2 == 0 else self._evens_view(view)
        return self._onward[place]

    def _blocks_view(self, view):
        low, sign, high = view
        ahead = joined_entries([self._blocks.entries(low), [((), (sign,), ())]])
        entries = joined_entries([ahead, self._blocks.entries(high)])
        at = len(ahead) - 1
        return as_sum(entries[:at]), row_sign(entries[at]), as_sum(entries[at + 1:])

    def _evens_view(self, view):
        low, sign, high = view
        lows = self._evens.entries(low)
        highs = self._evens.entries(high)
        # A spot that lies in an even set has a part of it on both sides.
        if lows and lows[-1:] == highs[:1] and lows[-1][0] == "even":
            if self._evens.holds(lows[-1], ("old", single(sign))):
                return whole(lows[:-1]), lows[-1][1].sign, whole(highs[1:])
        return whole(lows), sign, whole(highs)
