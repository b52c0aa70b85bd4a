"""Profiles under numbers: equal profiles have one number, so that what follows from them is found once.

The number 0 is that of the empty profile.
"""

from lexiconlines.terms import parts_first

# How many copies can stand ahead of a copy, or behind it, for each depth: what further ones would tell is known.
_COPIES = (0, 1, 2, 4)


class ProfileTable:
    """All profiles met so far, with their sums and the like; all are told by their numbers."""

    def __init__(self):
        # For each number the ascending triples of a color and two numbers, and the profile itself.
        self._rows = [()]
        self._profiles = [()]
        self._numbers = {(): 0}
        self._lowered = {}
        self._sums = {}
        self._endless = {}
        self._shuffles = {}
        self._terms = ({}, {}, {}, {})

    def numbered(self, profile):
        """The number of a profile."""
        return self.numbered_row([(color, self.numbered(low), self.numbered(high)) for color, low, high in profile])

    def numbered_row(self, triples):
        """The number of the profile with some triples of a color and two numbers, some perhaps several times."""
        row = tuple(sorted(set(triples)))
        if row not in self._numbers:
            self._numbers[row] = len(self._rows)
            self._rows.append(row)
            self._profiles.append(None)
        return self._numbers[row]

    def row(self, number):
        """The ascending tuple of the triples of a color and two numbers of a profile."""
        return self._rows[number]

    def profile(self, number):
        """The profile with a number."""
        if self._profiles[number] is None:
            triples = [(color, self.profile(low), self.profile(high)) for color, low, high in self._rows[number]]
            self._profiles[number] = tuple(sorted(triples))
        return self._profiles[number]

    def lowered(self, one, depth):
        """The profile of the depth less 1 of a line, from its profile of a depth."""
        if depth <= 1 or one == 0:
            return 0
        place = (one, depth)
        if place not in self._lowered:
            triples = [(color, self.lowered(low, depth - 1), self.lowered(high, depth - 1))
                       for color, low, high in self._rows[one]]
            self._lowered[place] = self.numbered_row(triples)
        return self._lowered[place]

    def of_spot(self, color, depth):
        """The profile of a single spot."""
        return self.numbered_row([(color, 0, 0)]) if depth > 0 else 0

    def of_sum(self, one, other, depth):
        """The profile of a sum."""
        if one == 0 or other == 0:
            return one + other
        place = (one, other, depth)
        if place not in self._sums:
            ahead, behind = self.lowered(one, depth), self.lowered(other, depth)
            firsts = [(color, low, self.of_sum(high, behind, depth - 1)) for color, low, high in self._rows[one]]
            lasts = [(color, self.of_sum(ahead, low, depth - 1), high) for color, low, high in self._rows[other]]
            self._sums[place] = self.numbered_row(firsts + lasts)
        return self._sums[place]

    def of_up(self, one, depth):
        """The profile of up."""
        return self._repeated(one, depth, True)

    def of_down(self, one, depth):
        """The profile of down."""
        return self._repeated(one, depth, False)

    def of_shuffle(self, pieces, depth):
        """The profile of the shuffle of a list."""
        filled = tuple(sorted(set([piece for piece in pieces if piece != 0])))
        if depth == 0 or filled == ():
            return 0
        place = (filled, depth)
        if place not in self._shuffles:
            even = self.of_shuffle([self.lowered(piece, depth) for piece in filled], depth - 1)
            triples = [(color, self.of_sum(even, low, depth - 1), self.of_sum(high, even, depth - 1))
                       for piece in filled for color, low, high in self._rows[piece]]
            self._shuffles[place] = self.numbered_row(triples)
        return self._shuffles[place]

    def of_term(self, term, depth):
        """The profile of a term of colors."""
        known = self._terms[depth]
        missing = parts_first(term, known)
        for one in missing:
            known[one.text()] = self._made(one, [known[part.text()] for part in one.parts], depth)
        return known[term.text()]

    def of_terms(self, terms, depth):
        """The profile of the sum of a list of terms."""
        total = 0
        for term in terms:
            total = self.of_sum(total, self.of_term(term, depth), depth)
        return total

    def _repeated(self, one, depth, up):
        if depth == 0 or one == 0:
            return 0
        place = (one, depth, up)
        if place not in self._endless:
            part = self.lowered(one, depth)
            endless = self._repeated(part, depth - 1, up)
            copies = 0
            triples = []
            for _ in range(_COPIES[depth]):
                ahead, behind = (copies, endless) if up else (endless, copies)
                triples.extend([(color, self.of_sum(ahead, low, depth - 1), self.of_sum(high, behind, depth - 1))
                                for color, low, high in self._rows[one]])
                copies = self.of_sum(copies, part, depth - 1)
            self._endless[place] = self.numbered_row(triples)
        return self._endless[place]

    def _made(self, term, parts, depth):
        """The profile of a term from those of its parts."""
        if term.kind == "sign":
            return self.of_spot(term.sign, depth)
        if term.kind in ("up", "down"):
            return self._repeated(parts[0], depth, term.kind == "up")
        if term.kind == "shuffle":
            return self.of_shuffle(parts, depth)
        # Long sums are made of short ones, since all that is far from its neighbors looks much alike.
        while len(parts) > 1:
            pairs = list(zip(parts[::2], parts[1::2]))
            parts = [self.of_sum(one, other, depth) for one, other in pairs] + parts[2 * len(pairs):]
        return parts[0] if parts else 0
