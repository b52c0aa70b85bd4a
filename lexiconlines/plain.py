"""Plain terms of books and nodes."""

from lexiconlines.classways import class_ways
from lexiconlines.errors import UnknownNode
from lexiconlines.nodes import is_index
from lexiconlines.plainterms import PlainTerms
from lexiconlines.terms import Term


def term_of(book, *, node=0):
    """The plain term of a node."""
    if not is_index(node, len(book)):
        raise UnknownNode(node)
    return PlainTerms(book).term(node)


def left_term(book, node):
    """The term of what a node of a class has ahead of all shuffled pieces."""
    class_ways(book, node)
    return PlainTerms(book).left(node)


def right_term(book, node):
    """The term of what a node of a class has behind all shuffled pieces."""
    class_ways(book, node)
    return PlainTerms(book).right(node)


def gap_terms(book, node):
    """The list of the not empty shuffled pieces of the class of a node, ascending by their texts."""
    class_ways(book, node)
    return PlainTerms(book).pieces(node)


def as_term(line):
    """A term itself, or the plain term of a book."""
    return line if isinstance(line, Term) else term_of(line)
