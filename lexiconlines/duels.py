"""Duels: two lines with unlike profiles are told apart by choosing spots and answering with spots."""

from lexiconlines.errors import Alike, InvalidNumber, TooMany, Unlike, WrongColor
from lexiconlines.parting import MOST_WORDS
from lexiconlines.plain import as_term
from lexiconlines.profiles import check_depth
from lexiconlines.profiletables import ProfileTable
from lexiconlines.spans import above, below
from lexiconlines.telling import least_unlike
from lexiconlines.values import is_number_in
from lexiconlines.wordtriples import WordTriples


class Duel:
    """A duel on two books, in which the package chooses and the other side answers."""

    def __init__(self, one, other, *, depth=3):
        check_depth(depth, 1)
        self._table = ProfileTable()
        self._books = (one, other)
        self._least = self._least_of(self._books, depth)
        if self._least is None:
            raise Alike(depth)
        self._choice = None
        self.rounds = 0

    def books(self):
        """The pair of the two present books."""
        return self._books

    def choose(self):
        """A right choice: the pair of a side and a word of its book."""
        if self._choice is None:
            self._choice = self._first_choice()
        return self._choice

    def answer(self, word):
        """Answers the choice by a word of the other side; tells whether the duel goes on below or above."""
        side, chosen = self.choose()
        color = self._books[1 - side].check(word)
        if color != self._books[side].color_of(chosen):
            raise WrongColor(color)
        words = (chosen, word) if side == 0 else (word, chosen)
        pairs = list(zip(self._books, words))
        one, other = [WordTriples(book, self._table, self._least).of_word(told) for book, told in pairs]
        if one[1] != other[1]:
            direction, books = "below", [below(book, told) for book, told in pairs]
        else:
            direction, books = "above", [above(book, told) for book, told in pairs]
        self._least = self._least_of(books, self._least - 1)
        self._books = tuple(books)
        self._choice = None
        self.rounds += 1
        return direction

    @property
    def won(self):
        """Whether no word of the other side has the color of the choice."""
        # Profiles of depth 1 tell just which colors there are.
        return self._least == 1

    def twin(self):
        """An independent duel in the same state."""
        one, other = self._books
        made = Duel(one, other, depth=self._least)
        made.rounds = self.rounds
        made._choice = self._choice
        return made

    def __repr__(self):
        return f"Duel({self.rounds} rounds)"

    def _least_of(self, books, depth):
        """The least depth, up to a given one, at which the profiles of two books are unlike, or None."""
        return least_unlike(self._table, [as_term(book) for book in books], depth)

    def _first_choice(self):
        rows = [self._table.row(self._table.of_term(as_term(book), self._least)) for book in self._books]
        for side, book in enumerate(self._books):
            right = [triple for triple in rows[side] if triple not in rows[1 - side]]
            word = WordTriples(book, self._table, self._least).first_with(right)
            if word is not None:
                return (side, word)
        raise TooMany(MOST_WORDS)


def reply(one, other, side, word, depth):
    """The first word of the other book in short order that has the same triple as a word of one of two books."""
    check_depth(depth, 1)
    table = ProfileTable()
    books = (one, other)
    try:
        numbers = [table.of_term(as_term(book), depth) for book in books]
    except TooMany:
        # That a term is too great is told behind all that is wrong with the other arguments.
        _check_asked(books, side, word)
        raise
    if numbers[0] != numbers[1]:
        raise Unlike(depth, "")
    _check_asked(books, side, word)
    triple = WordTriples(books[side], table, depth).of_word(word)
    found = WordTriples(books[1 - side], table, depth).first_with([triple])
    if found is None:
        raise TooMany(MOST_WORDS)
    return found


def _check_asked(books, side, word):
    """Raises InvalidNumber, InvalidWord or NoWord unless a side is one and a word is a word of its book."""
    if not is_number_in(side, 0, 1):
        raise InvalidNumber(side)
    books[side].check(word)
