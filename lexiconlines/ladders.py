"""The levels of the ladder of a term, and the keys of many lines."""

from lexiconlines.blocks import BlockFolder
from lexiconlines.evensets import EvenFolder
from lexiconlines.terms import sum_of


def ladder_terms(term):
    """The list of the terms of all levels of a ladder, from a term at level 0 to the end."""
    return _levels(term, BlockFolder(), EvenFolder())


def has_one_spot(term):
    """Whether the line of a term has one spot, or none at all."""
    return term.is_empty or term.kind == "sign"


class Keys:
    """The keys of sums of terms; what was folded for one sum serves for others, too."""

    def __init__(self):
        self._blocks = BlockFolder()
        self._evens = EvenFolder()
        self._known = {}

    def told(self, parts):
        """The number of the spots of the sum of some terms, or None for infinitely many, and its key."""
        return _spots(parts), self._key(sum_of(parts))

    def is_told(self, parts, told):
        """Whether the sum of some terms is the same line as one of which that was told."""
        many, key = told
        # Lines with other numbers of spots are often long, so they are not folded.
        return _spots(parts) == many and self._key(sum_of(parts)) == key

    def _key(self, term):
        if term.text() not in self._known:
            self._known[term.text()] = _levels(term, self._blocks, self._evens)[-1].text()
        return self._known[term.text()]


def _spots(parts):
    """How many spots the sum of some terms has, or None for infinitely many."""
    if any([part.height > 0 for part in parts]):
        return None
    return sum([len(part) for part in parts])


def _levels(term, blocks, evens):
    terms = [term]
    while not has_one_spot(terms[-1]):
        if len(terms) % 2 == 1:
            terms.append(blocks.folded(terms[-1]))
        else:
            terms.append(evens.folded(terms[-1]))
    return terms
