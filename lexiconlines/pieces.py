"""Pieces: the spots in which a word lies at the levels of a ladder."""

from lexiconlines.keys import check_level
from lexiconlines.spots import Spots


def piece(book, word, level):
    """The sign of the piece of a word at a level."""
    check_level(level)
    book.check(word)
    return Spots(book).sign_at(word, level)


def pieces(book, word):
    """The list of the signs of the pieces of a word, from level 0 to the end of the ladder of its book."""
    book.check(word)
    return Spots(book).signs_of(word)
