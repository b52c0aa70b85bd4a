"""Books made from the words of other books."""

from lexiconlines.errors import InvalidCode, InvalidColor
from lexiconlines.exact import exact_book
from lexiconlines.least import least
from lexiconlines.nets import behind_others, pair_of_nodes, walked
from lexiconlines.nodes import BARE, PLACES
from lexiconlines.values import is_list
from lexiconlines.words import COLORS, LETTERS, check_letters, is_color, is_letters

_LONGEST_CODE = 10


def only(book, color):
    """The words that have a color."""
    _check_color(color)
    return _painted(book, {other: "" for other in COLORS if other != color})


def without(book, color):
    """The words that have another color."""
    _check_color(color)
    return _painted(book, {color: ""})


def over(one, other):
    """The words of either book; a word of both has the color that it has in the first one."""
    return _paired(one, other, _first_color)


def common(one, other):
    """The words of both books, with the color that they have in the first one."""
    return _paired(one, other, _shared_color)


def under(book, word):
    """The words of a book, each with a word ahead of it."""
    check_letters(word)
    chain = [list(BARE) for _ in word]
    for at, letter in enumerate(word):
        chain[at][PLACES[letter]] = at + 1
    return exact_book([tuple(node) for node in chain] + behind_others(book.nodes(), len(word)))


def behind(book, word):
    """What stands behind a word in those words of a book that begin with it."""
    check_letters(word)
    net = book.nodes()
    start = walked(net, 0, word)
    if start is None:
        return exact_book([BARE])
    moved = behind_others(net, 1)
    return exact_book([moved[start]] + moved)


def coded(book, code):
    """The words of a book, in which each letter is replaced by its string of a code."""
    _check_code(code)
    net = book.nodes()
    rows = [[node[0], None, None, None, None] for node in net]
    for at, node in enumerate(net):
        for word, child in zip(code, node[1:]):
            if child is not None:
                _lead(rows, at, word, child)
    return exact_book([tuple(row) for row in rows])


def recolored(book, **colors):
    """The words of a book; each color that is a keyword is replaced by its value."""
    for color in list(colors) + list(colors.values()):
        _check_color(color)
    return _painted(book, colors)


def _check_color(value):
    if not is_color(value):
        raise InvalidColor(value)


def _check_code(code):
    if not is_list(code) or len(code) != len(LETTERS):
        raise InvalidCode(-1)
    for at, item in enumerate(code):
        if not is_letters(item) or not 1 <= len(item) <= _LONGEST_CODE:
            raise InvalidCode(at)
        if at > 0 and (item <= code[at - 1] or item.startswith(code[at - 1])):
            raise InvalidCode(at)


def _painted(book, colors):
    """The exact book in which some colors are replaced; the empty string stands for no color."""
    return exact_book([(colors.get(node[0], node[0]),) + node[1:] for node in book.nodes()])


def _lead(rows, at, word, goal):
    """Puts nodes into rows, as far as they are missing, so that a word leads from a node to another one."""
    for letter in word[:-1]:
        place = PLACES[letter]
        if rows[at][place] is None:
            rows[at][place] = len(rows)
            rows.append(list(BARE))
        at = rows[at][place]
    rows[at][PLACES[word[-1]]] = goal


def _first_color(left, right):
    return left or right


def _shared_color(left, right):
    return left if right != "" else ""


def _paired(one, other, mixed):
    """The exact book whose colors follow from the colors in two books, as mixed tells."""
    nets = (least(one).nodes(), least(other).nodes())
    pairs = [(0, 0)]
    numbers = {(0, 0): 0}
    net = []
    at = 0
    while at < len(pairs):
        left, right = pair_of_nodes(nets[0], nets[1], pairs[at])
        children = list(zip(left[1:], right[1:]))
        for pair in children:
            if pair != (None, None) and pair not in numbers:
                numbers[pair] = len(pairs)
                pairs.append(pair)
        net.append((mixed(left[0], right[0]),) + tuple([numbers.get(pair) for pair in children]))
        at += 1
    return exact_book(net)
