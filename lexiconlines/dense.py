"""Dense parts of lines, and tuples that show them."""

from lexiconlines.books import Book
from lexiconlines.classways import ClassWays
from lexiconlines.nets import shortest_way, shortest_word, walked, word_lengths
from lexiconlines.terms import parts_first
from lexiconlines.words import is_letters


def has_dense(line):
    """Whether a book or a term has a dense part."""
    if isinstance(line, Book):
        return dense_paper(line) is not None
    return any([one.kind == "shuffle" for one in parts_first(line, {})])


def is_dense(book, value):
    """Whether any value is a tuple that is dense in a book."""
    if not isinstance(value, tuple) or len(value) != 4 or not all([is_letters(item) for item in value]):
        return False
    return is_dense_order(value) and has_dense_words(book, value)


def dense_paper(book):
    """A tuple that is dense in a book, or None if there is none."""
    net = book.nodes()
    ways = ClassWays(book)
    for node in book.live():
        for low, high in ways.neighbors(node):
            y = low + ways.path(ways.child(node, low), node)
            back = high + ways.path(ways.child(node, high), node)
            g = back + y + shortest_word(net, word_lengths(net), node)
            # Behind back, g goes on with y, and back + back with a greater letter.
            return (shortest_way(net, node), y, back + back, g)
    return None


def is_dense_order(value):
    """Whether the strings of a tuple (x, y, y2, g) have the order of a dense one."""
    _, y, y2, g = value
    return y < g <= y2 and not g.startswith(y)


def has_dense_words(book, value):
    """Whether x u g is a word of a book for any row u of copies of y and y2, for a tuple (x, y, y2, g) of strings."""
    x, y, y2, g = value
    net = book.nodes()
    waiting = [walked(net, 0, x)]
    met = {}
    while waiting:
        node = waiting.pop()
        if node is None:
            return False
        if node not in met:
            met[node] = True
            end = walked(net, node, g)
            if end is None or net[end][0] == "":
                return False
            waiting.extend([walked(net, node, turn) for turn in (y, y2)])
    return True
