"""The profiles of all lines with some colors: the least set that is closed under sum, up, down and shuffle."""

from lexiconlines.profiletables import ProfileTable
from lexiconlines.terms import Term, shuffle_of
from lexiconlines.words import COLORS


class AllProfiles:
    """The profiles of a depth within reach of all lines with so many colors, each with a term."""

    def __init__(self, colors, depth):
        self.table = ProfileTable()
        self._depth = depth
        # By numbers of profiles, in the order in which they were found.
        self._terms = {0: Term.empty()}
        self._order = [0]
        # The profiles that were not found as sums, each with how many others it has been put behind.
        self._makers = []
        self._reached = []
        # Lists of pieces by the set of what matters of them in a shuffle.
        self._pieces = {(): []}
        for color in COLORS[:colors]:
            self._add_maker(self.table.of_spot(color, depth), Term.spot(color))
        self._close()

    def by_number(self):
        """A dict from the numbers of the profiles to terms."""
        return {number: self._terms[number] for number in self._order}

    def _close(self):
        at = 0
        while at < len(self._order):
            number = self._order[at]
            term = self._terms[number]
            self._add_maker(self.table.of_up(number, self._depth), term.up())
            self._add_maker(self.table.of_down(number, self._depth), term.down())
            self._add_shuffles(number)
            at += 1
            self._add_sums(at)

    def _add(self, number, term):
        """Takes in a profile; whether it is a new one."""
        if number in self._terms:
            return False
        self._terms[number] = term
        self._order.append(number)
        return True

    def _add_maker(self, number, term):
        if self._add(number, term):
            self._makers.append(number)
            self._reached.append(0)

    def _add_sums(self, many):
        """Takes in the sums of the first profiles that were found and of each maker."""
        # Each profile is a sum of makers, so that no other sums need be looked at.
        for at, maker in enumerate(self._makers):
            for number in self._order[self._reached[at]:many]:
                total = self.table.of_sum(number, maker, self._depth)
                if total not in self._terms:
                    self._add(total, self._terms[number] + self._terms[maker])
            self._reached[at] = many

    def _add_shuffles(self, number):
        """Takes in all shuffles in which the profile with a number is a piece."""
        own = self._matters(number)
        for others in list(self._pieces):
            both = tuple(sorted(set(own) | set(others)))
            if both not in self._pieces:
                pieces = self._pieces[others] + [number]
                self._pieces[both] = pieces
                shuffle = shuffle_of([self._terms[piece] for piece in pieces])
                self._add_maker(self.table.of_shuffle(pieces, self._depth), shuffle)

    def _matters(self, number):
        """What matters of a piece in a shuffle: its colors, at depth 3 also which neighbors its spots have."""
        row = self.table.row(number)
        if self._depth < 3:
            return [color for color, _, _ in row]
        return [(color, self._has_edge(low, 2), self._has_edge(high, 1)) for color, low, high in row]

    def _has_edge(self, number, at):
        """Whether some spot has nothing above it (at is 2), or below it (at is 1)."""
        return any([triple[at] == 0 for triple in self.table.row(number)])
