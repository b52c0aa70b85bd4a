"""Well-ordered lines, their ordinals, and tuples that fall or rise in a book."""

from lexiconlines.books import Book
from lexiconlines.classways import ClassWays
from lexiconlines.errors import NotWell
from lexiconlines.nets import shortest_way, shortest_word, word_lengths
from lexiconlines.nodes import PLACES
from lexiconlines.ordinals import Ordinal
from lexiconlines.plain import as_term
from lexiconlines.terms import parts_first


def is_well(line):
    """Whether a book or a term has a well-ordered line."""
    if isinstance(line, Book):
        return fall_paper(line) is None
    return not any([one.kind in ("down", "shuffle") for one in parts_first(line, {})])


def ordinal_of(line):
    """The ordinal of a well-ordered book or term."""
    if not is_well(line):
        raise NotWell(fall_paper(line) if isinstance(line, Book) else None)
    term = as_term(line)
    known = {}
    for one in parts_first(term, {}):
        total = Ordinal.of(1 if one.kind == "sign" else 0)
        for part in one.parts:
            total = total + known[part.text()]
        known[one.text()] = total * Ordinal((1, 1)) if one.kind == "up" else total
    return known[term.text()]


def fall_paper(book):
    """A tuple that falls in a book, or None if there is none."""
    return _paper(book, True)


def rise_paper(book):
    """A tuple that rises in a book, or None if there is none."""
    return _paper(book, False)


def _paper(book, falls):
    net = book.nodes()
    ways = ClassWays(book)
    lengths = word_lengths(net)
    for node in book.live():
        letters = ways.letters(node)
        if letters == "":
            continue
        # A turn through the node falls if a word of the node branches off with a greater letter.
        turn = letters[0] if falls else letters[-1]
        ending = _ending(net, lengths, node, turn, falls)
        if ending is not None:
            return (shortest_way(net, node), turn + ways.path(ways.child(node, turn), node), ending)
    return None


def _ending(net, lengths, node, turn, falls):
    """A word of a node that is above all of its words that begin with a letter, or below them; or None."""
    if not falls and net[node][0] != "":
        return ""
    for letter, place in PLACES.items():
        child = net[node][place]
        if child is not None and lengths[child] is not None:
            if (letter > turn and falls) or (letter < turn and not falls):
                return letter + shortest_word(net, lengths, child)
    return None
