"""The second folding: how the greatest even sets of a term become single spots.

A folded term is told as a list of *entries*: pairs of a word and a Term. The word is `old` for a
sign of the term that is folded, `even` for an even sign made in this folding, and `other` for up,
down and shuffles.
"""

from lexiconlines.bounds import MOST_ITEMS, bounded
from lexiconlines.errors import TooMany
from lexiconlines.rowforms import even_text
from lexiconlines.terms import parts_first, shuffle_of, single, sum_of

# At most two entries of a list are lost on each side where it meets others, so a list that is
# longer than this cannot become a term that is short enough.
_FAR_TOO_MANY = 8000
_EVEN_FORMS = ("old", "even", "old even", "even old", "old even old")


class EvenFolder:
    """Second foldings of terms; what was folded once is kept."""

    def __init__(self):
        self._known = {}
        self._held = {}

    def folded(self, term):
        """The second folding of a term."""
        return whole(self.entries(term))

    def entries(self, term):
        """The entries of the second folding of a term."""
        missing = parts_first(term, self._known)
        for one in missing:
            entries = self._made(one)
            if sum([len(entry) for _, entry in entries]) > _FAR_TOO_MANY:
                raise TooMany(MOST_ITEMS)
            self._known[one.text()] = entries
        return list(self._known[term.text()])

    def holds(self, even, entry):
        """Whether an even entry holds the sign of another entry."""
        return entry[0] == "old" and entry[1].sign in self._held[even[1].sign]

    def _made(self, term):
        parts = [self._known[part.text()] for part in term.parts]
        if term.kind == "sign":
            return [("old", term)]
        if term.kind == "up":
            return self._up(parts[0])
        if term.kind == "down":
            return self._down(parts[0])
        if term.kind == "shuffle":
            return [self._shuffled(parts)]
        return self._reduced([entry for part in parts for entry in part])

    def _reduced(self, entries):
        """Entries in which U U and U p U have become U."""
        reduced = []
        for entry in entries:
            if entry[0] == "even" and reduced[-1:] == [entry]:
                continue
            if entry[0] == "even" and reduced[-2:-1] == [entry] and self.holds(entry, reduced[-1]):
                reduced.pop()
                continue
            reduced.append(entry)
        return reduced

    def _begins(self, entries):
        """The beginning U or p U of some entries, or an empty list."""
        return self._outer(entries[:2])

    def _ends(self, entries):
        """The end U or U p of some entries, or an empty list."""
        return self._outer(entries[-2:][::-1])[::-1]

    def _outer(self, pair):
        """The first one of a pair of entries if it is even, or both if the second one is and holds the first one."""
        if pair[0][0] == "even":
            return pair[:1]
        if len(pair) == 2 and pair[1][0] == "even" and self.holds(pair[1], pair[0]):
            return pair
        return []

    def _up(self, entries):
        """The entries of up of a term, from those of the term; even sets go on from copy to copy."""
        first, last = self._begins(entries), self._ends(entries)
        if len(last) == len(entries):
            return [last[0]]
        if len(first) == len(entries):
            return first
        even = _common(first, last)
        if even:
            middle = entries[len(first):len(entries) - len(last)]
            return first + middle + [("other", _sum(even + middle).up())]
        behind = [("other", _sum(entries).up())]
        return entries + behind if first else behind

    def _down(self, entries):
        """The mirror of _up."""
        first, last = self._begins(entries), self._ends(entries)
        if len(first) == len(entries):
            return [first[-1]]
        if len(last) == len(entries):
            return last
        even = _common(first, last)
        if even:
            middle = entries[len(first):len(entries) - len(last)]
            return [("other", _sum(middle + even).down())] + middle + last
        ahead = [("other", _sum(entries).down())]
        return ahead + entries if last else ahead

    def _shuffled(self, parts):
        """The entry of the shuffle of the pieces with some lists of entries."""
        if all([" ".join([kind for kind, _ in part]) in _EVEN_FORMS for part in parts]):
            olds = {entry.sign: True for part in parts for kind, entry in part if kind == "old"}
            evens = {entry.sign: entry for part in parts for kind, entry in part if kind == "even"}
            if not evens:
                return self._even(list(olds))
            sign, even = list(evens.items())[0]
            if len(evens) == 1 and all([old in self._held[sign] for old in olds]):
                return ("even", even)
        return ("other", shuffle_of([_sum(part) for part in parts]))

    def _even(self, olds):
        """The entry of the even sign that holds some signs."""
        sign = even_text(olds)
        self._held[sign] = {old: True for old in olds}
        return ("even", single(sign))


def whole(entries):
    """The term of all entries; raises TooMany if it has too many items."""
    return bounded(_sum(entries))


def _sum(entries):
    return sum_of([entry for _, entry in entries])


def _common(first, last):
    """The even entry of a beginning and an end in a list, if both have the same one, and not each an old sign."""
    if not first or not last or len(first) + len(last) == 4 or first[-1] != last[0]:
        return []
    return [last[0]]
