"""At which level and by which word two lines differ."""

from lexiconlines.errors import TooMany
from lexiconlines.ladders import ladder_terms
from lexiconlines.listing import by_length
from lexiconlines.plain import as_term
from lexiconlines.spots import Spots

MOST_WORDS = 5000


def parting(one, other):
    """The tuple (level, side, sign, word) that tells how the lines of two books differ, or None."""
    found = parting_sign(one, other)
    if found is None:
        return None
    level, side, sign = found
    return (level, side, sign, _first_with(other if side == 1 else one, level, sign))


def parting_sign(one, other):
    """The tuple (level, side, sign) that tells how two lines differ, or None."""
    left = ladder_terms(as_term(one))
    right = ladder_terms(as_term(other))
    for level in range(max(len(left), len(right))):
        signs = left[min(level, len(left) - 1)].signs()
        others = right[min(level, len(right) - 1)].signs()
        if signs != others:
            sign = sorted(set(signs) ^ set(others))[0]
            return (level, 0 if sign in signs else 1, sign)
    return None


def _first_with(book, level, sign):
    """The first word of a book in short order whose piece at a level has a sign."""
    spots = Spots(book)
    for word in by_length(book, MOST_WORDS):
        # Each spot of a piece bears a color that its sign tells.
        if book.color_of(word) in sign and spots.sign_at(word, level) == sign:
            return word
    raise TooMany(MOST_WORDS)
