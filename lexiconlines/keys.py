"""Ladders and keys, by which lines are told apart, and ranks."""

from lexiconlines.blocks import BlockFolder
from lexiconlines.books import Book
from lexiconlines.dense import dense_paper, has_dense
from lexiconlines.errors import HasDense, InvalidNumber
from lexiconlines.ladders import has_one_spot, ladder_terms
from lexiconlines.plain import as_term
from lexiconlines.values import is_number_in

_MOST_LEVEL = 60


class Ladder:
    """The ladder of a line; it never changes."""

    def __init__(self, line):
        self._terms = ladder_terms(as_term(line))

    @property
    def end(self):
        """The first level that has one spot, or none."""
        return len(self._terms) - 1

    @property
    def key(self):
        """The key of the line."""
        return self._terms[-1].text()

    def term_at(self, n):
        """The term of a level."""
        check_level(n)
        return self._terms[min(n, len(self._terms) - 1)]

    def signs_at(self, n):
        """The ascending list of the signs that occur at a level."""
        return self.term_at(n).signs()

    def levels(self):
        """Yields the texts of the levels from 0 to the end."""
        for term in self._terms:
            yield term.text()

    def __len__(self):
        return len(self._terms)

    def __repr__(self):
        return f"Ladder({self._terms[-1].text()})"


def key_of(line):
    """The key of a book or a term."""
    return Ladder(line).key


def same_line(one, other):
    """Whether two books or terms have the same line."""
    return key_of(one) == key_of(other)


def rank_of(line):
    """How many first foldings make a line without a dense part one spot, or none at all."""
    if has_dense(line):
        raise HasDense(dense_paper(line) if isinstance(line, Book) else None)
    folder = BlockFolder()
    term = as_term(line)
    rank = 0
    while not has_one_spot(term):
        term = folder.folded(term)
        rank += 1
    return rank


def check_level(value):
    """Raises InvalidNumber for any value that is no level that can be asked for."""
    if not is_number_in(value, 0, _MOST_LEVEL):
        raise InvalidNumber(value)
