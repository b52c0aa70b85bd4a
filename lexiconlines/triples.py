"""Triples of words: what formulas of small depth tell of what lies below and above a word."""

from lexiconlines.errors import NoTriple, TooMany
from lexiconlines.parting import MOST_WORDS
from lexiconlines.profiles import check_depth, profile_of
from lexiconlines.profiletables import ProfileTable
from lexiconlines.wordtriples import WordTriples


def triple_of(book, word, depth):
    """The triple of a word in the profile of a depth of its book."""
    check_depth(depth, 1)
    book.check(word)
    table = ProfileTable()
    color, low, high = WordTriples(book, table, depth).of_word(word)
    return (color, table.profile(low), table.profile(high))


def shown(book, triple, depth):
    """The first word of a book in short order that has a triple of its profile."""
    check_depth(depth, 1)
    if not isinstance(triple, tuple) or triple not in profile_of(book, depth):
        raise NoTriple(triple)
    table = ProfileTable()
    color, low, high = triple
    numbers = (color, table.numbered(low), table.numbered(high))
    word = WordTriples(book, table, depth).first_with([numbers])
    if word is None:
        raise TooMany(MOST_WORDS)
    return word
