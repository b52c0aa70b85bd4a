"""Books with the lines of terms, and of sums, repetitions, shuffles, mirrors and fillings of books."""

from lexiconlines.assembly import Assembly
from lexiconlines.errors import InvalidColor, TooMany
from lexiconlines.terms import parts_first
from lexiconlines.words import is_color

_MOST_ITEMS = 40
_MOST_NODES = 60


def book_of(term):
    """A book with the line of a term of colors."""
    if len(term) > _MOST_ITEMS:
        raise TooMany(len(term))
    made = Assembly()
    nodes = {}
    for one in parts_first(term, {}):
        nodes[one.text()] = _node_of(made, one, [nodes[part.text()] for part in one.parts])
    return made.book(nodes[term.text()])


def joined(*books):
    """A book with the lines of some books, one behind the other."""
    _check_nodes(books)
    made = Assembly()
    return made.book(made.in_row([made.added(book.nodes()) for book in books]))


def repeated(book, *, down=False):
    """A book with the line of a book repeated up, or down."""
    _check_nodes([book])
    made = Assembly()
    return made.book(made.repeated(made.added(book.nodes()), down))


def shuffled(*books):
    """A book with the shuffle of the lines of some books."""
    _check_nodes(books)
    made = Assembly()
    return made.book(made.shuffled([made.added(book.nodes()) for book in books]))


def mirrored(book):
    """A book with the mirror of the line of a book."""
    _check_nodes([book])
    made = Assembly()
    made.kept(len(book))
    for at, node in enumerate(book.nodes()):
        color, *children = node
        # A word stands ahead of all that begin with it, so in the mirror it stands behind them.
        behind = [] if color == "" else [made.colored(color)]
        made.set_in_row(at, [child for child in children[::-1] if child is not None] + behind)
    return made.book(0)


def filled(book, **books):
    """A book in whose line each spot of a color that is a keyword is replaced by the line of its value."""
    for color in books:
        if not is_color(color):
            raise InvalidColor(color)
    _check_nodes([book] + list(books.values()))
    made = Assembly()
    made.added(book.nodes())
    starts = {color: made.added(other.nodes()) for color, other in books.items()}
    for at, node in enumerate(book.nodes()):
        color, *children = node
        if color in starts:
            made.set_in_row(at, [starts[color]] + [child for child in children if child is not None])
    return made.book(0)


def _check_nodes(books):
    count = sum([len(book) for book in books])
    if count > _MOST_NODES:
        raise TooMany(count)


def _node_of(made, term, parts):
    """The node of a term in an assembly in which its parts have nodes."""
    if term.kind == "sign":
        return made.colored(term.sign)
    if term.kind == "shuffle":
        return made.shuffled(parts)
    if term.kind == "sum" or term.is_empty:
        return made.in_row(parts)
    return made.repeated(parts[0], term.kind == "down")
