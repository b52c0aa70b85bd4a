"""Ordinals below w^w: sums of powers of w with counts."""

from lexiconlines.errors import InvalidNumber
from lexiconlines.values import is_number, is_number_in

_MOST_EXPONENT = 60


class Ordinal:
    """An ordinal; it never changes."""

    def __init__(self, *terms):
        for at, term in enumerate(terms):
            if not _is_pair(term) or (at > 0 and term[0] >= terms[at - 1][0]):
                raise InvalidNumber(at)
        self.terms = terms

    @classmethod
    def of(cls, number):
        """The ordinal of a number from 0 on."""
        if not is_number(number) or number < 0:
            raise InvalidNumber(number)
        return cls((0, number)) if number > 0 else cls()

    def is_limit(self):
        """Whether it is not 0 and has no term with the exponent 0."""
        return len(self.terms) > 0 and self.terms[-1][0] > 0

    def text(self):
        """The text of the ordinal."""
        return "+".join([_term_text(exponent, count) for exponent, count in self.terms]) or "0"

    def __add__(self, other):
        if not isinstance(other, Ordinal):
            return NotImplemented
        made = Ordinal()
        made.terms = _sum(self.terms, other.terms)
        return made

    def __mul__(self, other):
        if not isinstance(other, Ordinal):
            return NotImplemented
        made = Ordinal()
        made.terms = _product(self.terms, other.terms)
        return made

    def __eq__(self, other):
        return isinstance(other, Ordinal) and self.terms == other.terms

    # With descending exponents the order of tuples is that of ordinals.

    def __lt__(self, other):
        if not isinstance(other, Ordinal):
            return NotImplemented
        return self.terms < other.terms

    def __le__(self, other):
        if not isinstance(other, Ordinal):
            return NotImplemented
        return self.terms <= other.terms

    def __gt__(self, other):
        if not isinstance(other, Ordinal):
            return NotImplemented
        return self.terms > other.terms

    def __ge__(self, other):
        if not isinstance(other, Ordinal):
            return NotImplemented
        return self.terms >= other.terms

    def __bool__(self):
        return bool(self.terms)

    def __str__(self):
        return f"{self.text()}"

    def __repr__(self):
        return f"Ordinal({self.text()})"


def _is_pair(value):
    if not isinstance(value, tuple) or len(value) != 2:
        return False
    return is_number_in(value[0], 0, _MOST_EXPONENT) and is_number(value[1]) and value[1] >= 1


def _sum(one, other):
    """The terms of the sum of two ordinals, from their terms."""
    if not other:
        return one
    exponent, count = other[0]
    ahead = tuple([term for term in one if term[0] > exponent])
    # What stands in the first ordinal below the greatest exponent of the second one is absorbed.
    met = sum([term[1] for term in one if term[0] == exponent])
    return ahead + ((exponent, met + count),) + other[1:]


def _product(one, other):
    """The terms of the product of two ordinals, from their terms."""
    if not one:
        return ()
    exponent, count = one[0]
    made = []
    for power, many in other:
        if power > 0:
            made.append((exponent + power, many))
        else:
            made.extend([(exponent, count * many), *one[1:]])
    return tuple(made)


def _term_text(exponent, count):
    if exponent == 0:
        return f"{count}"
    power = "w" if exponent == 1 else f"w^{exponent}"
    return power if count == 1 else f"{power}*{count}"
