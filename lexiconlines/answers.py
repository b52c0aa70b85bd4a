"""Answers of a bench to lines."""

from lexiconlines.dense import has_dense
from lexiconlines.errors import LexiconError, LookupFailed
from lexiconlines.keys import key_of, rank_of, same_line
from lexiconlines.listing import by_length
from lexiconlines.parting import parting
from lexiconlines.plain import term_of
from lexiconlines.steps import first_word, last_word, next_word, previous_word
from lexiconlines.wells import ordinal_of
from lexiconlines.words import is_name, is_word

_DIGITS = "0123456789"
_MOST_WORDS = 20
# For each first word of a line the forms of what stands behind it.
_FORMS = {
    "names": (), "count": (), "limit": (), "undo": (), "redo": (), "key": ("name",), "term": ("name",),
    "words": ("name", "number"), "next": ("name", "word"), "previous": ("name", "word"), "first": ("name",),
    "last": ("name",), "same": ("name", "name"), "rank": ("name",), "ordinal": ("name",), "part": ("name", "name"),
}


def answered(bench, line):
    """The answer of a bench to a string."""
    word, *told = line.split(" ")
    if word not in _FORMS or len(told) != len(_FORMS[word]):
        return "unknown"
    forms = _FORMS[word]
    if not all([_has_form(form, text) for form, text in zip(forms, told)]):
        return "unknown"
    action = _ACTIONS[word]
    try:
        values = [_read(bench, form, text) for form, text in zip(forms, told)]
        return action(bench, *values)
    except (LexiconError, LookupFailed) as error:
        return "error " + type(error).__name__


def _has_form(form, text):
    """Whether a text can stand where a line has a name, a word or a number."""
    if form == "name":
        return is_name(text)
    if form == "word":
        return text == "-" or (text != "" and is_word(text))
    if text.strip(_DIGITS) != "" or not 1 <= len(text) <= 2 or text[0] == "0":
        return False
    return int(text) <= _MOST_WORDS


def _read(bench, form, text):
    """The book with a name, the word or the number that a text tells."""
    if form == "name":
        return bench.book(text)
    if form == "word":
        return "" if text == "-" else text
    return int(text)


def _told_word(word):
    return word or "-"


def _names(bench):
    return " ".join(bench.names())


def _count(bench):
    return str(len(bench))


def _limit(bench):
    return str(bench.limit)


def _undo(bench):
    bench.undo()
    return "done"


def _redo(bench):
    bench.redo()
    return "done"


def _key(bench, book):
    return key_of(book)


def _term(bench, book):
    return term_of(book).text()


def _words(bench, book, most):
    return " ".join([_told_word(word) for word in by_length(book, most)])


def _next(bench, book, word):
    return _told_word(next_word(book, word))


def _previous(bench, book, word):
    return _told_word(previous_word(book, word))


def _first(bench, book):
    return _told_word(first_word(book))


def _last(bench, book):
    return _told_word(last_word(book))


def _same(bench, one, other):
    return "yes" if same_line(one, other) else "no"


def _rank(bench, book):
    return "dense" if has_dense(book) else str(rank_of(book))


def _ordinal(bench, book):
    return ordinal_of(book).text()


def _part(bench, one, other):
    found = parting(one, other)
    if found is None:
        return "same"
    level, side, sign, word = found
    return f"{level} {side} {sign} {_told_word(word)}"


# What answers a line with each first word.
_ACTIONS = {
    "names": _names, "count": _count, "limit": _limit, "undo": _undo, "redo": _redo, "key": _key, "term": _term,
    "words": _words, "next": _next, "previous": _previous, "first": _first, "last": _last, "same": _same, "rank": _rank,
    "ordinal": _ordinal, "part": _part,
}
