"""First and last words, next and previous ones."""

from lexiconlines.choices import child_by, choices, choices_behind
from lexiconlines.errors import NoStep
from lexiconlines.nets import shortest_word, trail, word_lengths
from lexiconlines.spans import distance


def first_word(book):
    """The least word of a book."""
    return _outermost(book, True)


def last_word(book):
    """The greatest word of a book."""
    return _outermost(book, False)


def next_word(book, word):
    """The least word of a book above one of its words, if no word is between."""
    return _beside(book, word, True)


def previous_word(book, word):
    """The greatest word of a book below one of its words, if no word is between."""
    return _beside(book, word, False)


def upward(book, word, most):
    """Yields the next words of a book from one of its words on, at most so many."""
    book.check(word)
    net = book.nodes()
    lengths = word_lengths(net)
    left = most
    while left > 0:
        word, _ = _neighbor(net, lengths, word, True)
        if word is None:
            return
        yield word
        left -= 1


def in_block(book, one, other):
    """Whether only finitely many words of a book lie between two of its words."""
    return distance(book, one, other) is not None


def _outermost(book, up):
    net = book.nodes()
    lengths = word_lengths(net)
    found, paper = (None, None) if lengths[0] is None else _edge(net, lengths, 0, up)
    if found is None:
        raise NoStep(None, _direction(up), paper)
    return found


def _beside(book, word, up):
    book.check(word)
    net = book.nodes()
    found, paper = _neighbor(net, word_lengths(net), word, up)
    if found is None:
        raise NoStep(word, _direction(up), paper)
    return found


def _direction(up):
    return "up" if up else "down"


def _neighbor(net, lengths, word, up):
    """The next word in one direction and None, or None and a tuple that shows why there is none, if one does."""
    nodes = trail(net, 0, word)
    for at in range(len(word), -1, -1):
        choice = _first_choice(net, lengths, nodes[at], choices_behind(word[at:at + 1], up))
        if choice == "":
            return word[:at], None
        if choice is not None:
            return _led(word[:at] + choice, _edge(net, lengths, child_by(net[nodes[at]], choice), up))
    return None, None


def _edge(net, lengths, node, up):
    """The first word of a node in one direction and None, or None and a tuple that falls or rises there."""
    word = ""
    places = {}
    while node not in places:
        places[node] = len(word)
        choice = _first_choice(net, lengths, node, choices(up))
        if choice == "":
            return word, None
        word = word + choice
        node = child_by(net[node], choice)
    # On this ring no word is ever first, so whatever stands behind it comes too late each time.
    place = places[node]
    return None, (word[:place], word[place:], shortest_word(net, lengths, node))


def _led(ahead, edge):
    """What _edge tells of a node, as seen from where a string leads to it."""
    found, paper = edge
    if paper is None:
        return ahead + found, None
    x, y, z = paper
    return None, (ahead + x, y, z)


def _first_choice(net, lengths, node, order):
    """The first of some choices that has words at a node, or None."""
    for choice in order:
        if choice == "" and net[node][0] != "":
            return choice
        if choice != "":
            child = child_by(net[node], choice)
            if child is not None and lengths[child] is not None:
                return choice
    return None
