"""Papers: certificates about books, and whether they hold."""

from lexiconlines.cuts import net_above, net_below
from lexiconlines.dense import has_dense_words, is_dense_order
from lexiconlines.falls import falls_to, is_above_all, is_below_all, is_fall, is_rise, is_row_of_words, rises_to
from lexiconlines.formulas import depth_of, is_formula
from lexiconlines.keys import Ladder
from lexiconlines.ladders import Keys
from lexiconlines.nets import word_lengths
from lexiconlines.pieces import piece
from lexiconlines.profiles import MOST_DEPTH, holds
from lexiconlines.stretches import Stretches
from lexiconlines.values import is_number_in
from lexiconlines.words import is_letters

_MOST_LEVEL = 60
# For each kind of paper the forms of the items behind its word.
_FORMS = {
    "next": ("word", "word"),
    "fall": ("word or none", "word", "some word", "word"),
    "rise": ("word or none", "word", "some word", "word"),
    "dense": ("word", "word", "word", "word"),
    "differ": ("word",),
    "mate": ("word", "word"),
    "part": ("level", "side", "word"),
    "formula": ("formula",),
}


def judged(paper, one, other=None):
    """The word of the first condition that does not hold for any value as a paper, or the empty string."""
    if not isinstance(paper, tuple) or len(paper) == 0 or not isinstance(paper[0], str):
        return "form"
    kind, *told = paper
    if kind not in _FORMS or len(told) != len(_FORMS[kind]):
        return "form"
    if not all([_has_form(form, item) for form, item in zip(_FORMS[kind], told)]):
        return "form"
    judge = _JUDGES[kind]
    return judge(told, one, other)


def _has_form(form, value):
    """Whether any value has the form that is told for an item of a paper."""
    if form == "word":
        return is_letters(value)
    if form == "some word":
        return is_letters(value) and value != ""
    if form == "word or none":
        return value is None or is_letters(value)
    if form == "level":
        return is_number_in(value, 0, _MOST_LEVEL)
    if form == "side":
        return is_number_in(value, 0, 1)
    return is_formula(value) and depth_of(value) <= MOST_DEPTH


def _next(told, one, other):
    low, high = told
    if low not in one or high not in one:
        return "word"
    if not low < high:
        return "order"
    between = net_below(net_above(one.nodes(), low), high)
    return "" if word_lengths(between)[0] is None else "between"


def _fall(told, one, other):
    word, *strings = told
    row = tuple(strings)
    if not is_row_of_words(one, row):
        return "word"
    if not is_fall(one, row):
        return "order"
    if not is_below_all(word, row):
        return "above"
    return "" if falls_to(one, word, row) else "between"


def _rise(told, one, other):
    word, *strings = told
    row = tuple(strings)
    if not is_row_of_words(one, row):
        return "word"
    if not is_rise(one, row):
        return "order"
    if not is_above_all(word, row):
        return "below"
    return "" if rises_to(one, word, row) else "between"


def _dense(told, one, other):
    if not has_dense_words(one, told):
        return "word"
    return "" if is_dense_order(told) else "order"


def _differ(told, one, other):
    color, second = one.color_of(told[0]), other.color_of(told[0])
    if color == "" and second == "":
        return "word"
    return "color" if color == second else ""


def _mate(told, one, other):
    word, mate = told
    color = one.color_of(word)
    if color == "" or mate not in other:
        return "word"
    if color != other.color_of(mate):
        return "color"
    keys = Keys()
    first, second = Stretches(one), Stretches(other)
    if not keys.is_told(second.lines(None, mate), keys.told(first.lines(None, word))):
        return "below"
    return "" if keys.is_told(second.lines(mate, None), keys.told(first.lines(word, None))) else "above"


def _part(told, one, other):
    level, side, word = told
    book, rival = (one, other) if side == 0 else (other, one)
    if word not in book:
        return "word"
    return "sign" if piece(book, word, level) in Ladder(rival).signs_at(level) else ""


def _formula(told, one, other):
    if not holds(one, told[0]):
        return "first"
    return "second" if holds(other, told[0]) else ""


# What judges a paper of each kind.
_JUDGES = {
    "next": _next, "fall": _fall, "rise": _rise, "dense": _dense, "differ": _differ, "mate": _mate, "part": _part,
    "formula": _formula,
}
