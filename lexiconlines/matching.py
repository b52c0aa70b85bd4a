"""Matchings: the words of two books with the same line, put in pairs one by one."""

from lexiconlines.cuts import net_above, net_below
from lexiconlines.errors import InvalidNumber, TooMany, Unlike
from lexiconlines.ladders import Keys
from lexiconlines.parting import MOST_WORDS, parting_sign
from lexiconlines.shortorder import net_words
from lexiconlines.stretches import Stretches
from lexiconlines.values import is_number_in


class Matching:
    """A matching of two books; each new mate keeps the order and all lines between the pairs."""

    def __init__(self, one, other):
        found = parting_sign(one, other)
        if found is not None:
            level, _, sign = found
            raise Unlike(level, sign)
        self.one = one
        self.other = other
        self._stretches = (Stretches(one), Stretches(other))
        self._keys = Keys()
        self._pairs = []

    def mate(self, side, word):
        """The word with which a word of the book of a side is in a pair, now at the latest."""
        if not is_number_in(side, 0, 1):
            raise InvalidNumber(side)
        self._book_of(side).check(word)
        low = high = None
        for pair in self._pairs:
            if pair[side] == word:
                return pair[1 - side]
            if pair[side] < word:
                low = pair
            elif high is None:
                high = pair
        found = self._sought(side, word, (low, high))
        pair = (word, found) if side == 0 else (found, word)
        self._pairs = sorted(self._pairs + [pair])
        return found

    def pairs(self):
        """The ascending list of the pairs."""
        return list(self._pairs)

    def twin(self):
        """An independent matching in the same state."""
        other = Matching(self.one, self.other)
        other._pairs = list(self._pairs)
        return other

    def __contains__(self, value):
        return isinstance(value, tuple) and value in self._pairs

    def __bool__(self):
        return True

    def __len__(self):
        return len(self._pairs)

    def __repr__(self):
        return f"Matching({len(self._pairs)} pairs)"

    def _book_of(self, side):
        return self.one if side == 0 else self.other

    def _sought(self, side, word, pairs):
        """The first word of the other book that can be the mate of a word between two pairs, or None for an end."""
        own, other = self._stretches[side], self._stretches[1 - side]
        color = self._book_of(side).color_of(word)
        low, high = [None if pair is None else pair[side] for pair in pairs]
        ahead, behind = self._keys.told(own.lines(low, word)), self._keys.told(own.lines(word, high))
        low, high = [None if pair is None else pair[1 - side] for pair in pairs]
        book = self._book_of(1 - side)
        net = _net_between(book, low, high)
        for found in net_words(net, MOST_WORDS):
            if book.color_of(found) == color and self._keys.is_told(other.lines(low, found), ahead):
                if self._keys.is_told(other.lines(found, high), behind):
                    return found
        raise TooMany(MOST_WORDS)


def _net_between(book, low, high):
    """A net of the words of a book above low and below high, as far as these are not None."""
    net = book.nodes()
    if low is not None:
        net = net_above(net, low)
    return net if high is None else net_below(net, high)
