"""Deeds: what can be done with the books of a bench."""

from lexiconlines.books import Book
from lexiconlines.errors import UnknownName
from lexiconlines.languages import over, without
from lexiconlines.machines import filled, joined, mirrored, repeated
from lexiconlines.spans import between
from lexiconlines.values import is_number_in
from lexiconlines.words import is_color, is_name, is_word

MOST_BOOKS = 12
# For each kind of deed the forms of the items behind its word.
_FORMS = {
    "put": ("name", "book"),
    "join": ("name", "name", "name"),
    "up": ("name", "name"),
    "down": ("name", "name"),
    "mirror": ("name", "name"),
    "fill": ("name", "name", "color", "name"),
    "span": ("name", "name", "bound", "bound"),
    "drop_color": ("name", "name", "color"),
    "over": ("name", "name", "name"),
    "drop": ("name",),
    "limit": ("limit",),
}


def is_deed(value):
    """Whether any value is a deed."""
    if not isinstance(value, tuple) or len(value) == 0 or not isinstance(value[0], str):
        return False
    forms = _FORMS.get(value[0])
    if forms is None or len(value) != len(forms) + 1:
        return False
    return all([_has_form(form, item) for form, item in zip(forms, value[1:])])


def made_by(deed, books):
    """The book that a deed other than drop and limit makes, from a dict of books by names."""
    check_names(deed, books)
    kind, _, *told = deed
    if kind == "put":
        return told[0]
    book = books[told[0]]
    if kind == "join":
        return joined(book, books[told[1]])
    if kind in ("up", "down"):
        return repeated(book, down=kind == "down")
    if kind == "mirror":
        return mirrored(book)
    if kind == "fill":
        fillings = {told[1]: books[told[2]]}
        return filled(book, **fillings)
    if kind == "span":
        return between(book, low=told[1], high=told[2])
    if kind == "drop_color":
        return without(book, told[1])
    return over(book, books[told[1]])


def check_names(deed, books):
    """Raises UnknownName with the first name of a book that a deed needs and that is not kept."""
    kind, *told = deed
    # All deeds but drop keep a book under the first of their names, which need not be known.
    skipped = 0 if kind == "drop" else 1
    for form, item in list(zip(_FORMS[kind], told))[skipped:]:
        if form == "name" and item not in books:
            raise UnknownName(item)


def _has_form(form, value):
    """Whether any value has the form that is told for an item of a deed."""
    if form == "name":
        return is_name(value)
    if form == "book":
        return isinstance(value, Book)
    if form == "color":
        return is_color(value)
    if form == "bound":
        return value is None or is_word(value)
    return is_number_in(value, 1, MOST_BOOKS)
