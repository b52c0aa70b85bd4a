"""The bound of the items of terms that the package makes."""

from lexiconlines.errors import TooMany
from lexiconlines.terms import sum_of

MOST_ITEMS = 4000


def bounded(term):
    """A term itself; raises TooMany if it has too many items."""
    if len(term) > MOST_ITEMS:
        raise TooMany(MOST_ITEMS)
    return term


def bounded_sum(terms):
    """The sum of a list of terms; raises TooMany if it has too many items."""
    # Sums are asked ahead of being made, since they could be too long to be made at all.
    if sum([len(term) for term in terms]) > MOST_ITEMS:
        raise TooMany(MOST_ITEMS)
    return sum_of(terms)
