"""Dense parts of lines, and tuples that show them."""

from lexiconlines.books import Book
from lexiconlines.classways import ClassWays
from lexiconlines.nets import shortest_way, shortest_word, walked, word_lengths
from lexiconlines.terms import parts_first
from lexiconlines.words import is_letters


def has_dense(line):
    """Whether a book or a term has a dense part."""
    if isinstance(line, Book):
        return dense_paper(line) is not None
    return any([one.kind == "shuffle" for one in parts_first(line, {})])


def is_dense(book, value):
    """Whether any value is a tuple that is dense in a book."""
    if not isinstance(value, tuple) or len(value) != 4 or not all([is_letters(item) for item in value]):
        return False
    x, y, y2, g = value
    if not y < g <= y2 or g.startswith(y):
        return False
    return _all_words(book.nodes(), x, (y, y2), g)


def dense_paper(book):
    """A tuple that is dense in a book, or None if there is none."""
    net = book.nodes()
    ways = ClassWays(book)
    for node in book.live():
        for low, high in ways.neighbors(node):
            y = low + ways.path(ways.child(node, low), node)
            back = high + ways.path(ways.child(node, high), node)
            g = back + y + shortest_word(net, word_lengths(net), node)
            # Behind back, g goes on with y, and back + back with a greater letter.
            return (shortest_way(net, node), y, back + back, g)
    return None


def _all_words(net, x, turns, g):
    """Whether x, any row of copies of some strings, and g always are a word."""
    waiting = [walked(net, 0, x)]
    met = {}
    while waiting:
        node = waiting.pop()
        if node is None:
            return False
        if node not in met:
            met[node] = True
            end = walked(net, node, g)
            if end is None or net[end][0] == "":
                return False
            waiting.extend([walked(net, node, turn) for turn in turns])
    return True
