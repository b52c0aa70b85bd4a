"""Which texts are read as terms."""

from lexiconlines.words import is_color

_MOST_BRACKETS = 20
_CLOSING = {"(": ")", "<": ")", "{": "}"}


def wrong_place(value):
    """The place from which any value is no text that is read as a term, or None if it is one."""
    if not isinstance(value, str):
        return 0
    if value.startswith("0"):
        return None if value == "0" else 1
    brackets = []
    # What must come: an item, something behind an item, or just this character.
    awaited = "item"
    for at, mark in enumerate(value):
        awaited = _awaited(awaited, mark, brackets)
        if awaited == "":
            return at
    return None if awaited == "more" and not brackets else len(value)


def _awaited(awaited, mark, brackets):
    """What must come behind a character, or the empty string if it cannot stand; brackets are those open."""
    if awaited == mark:
        return "item" if mark == "(" else "more"
    if awaited not in ("item", "more"):
        return ""
    if is_color(mark):
        return "more"
    if mark in _CLOSING:
        if len(brackets) == _MOST_BRACKETS:
            return ""
        brackets.append(mark)
        return "(" if mark == "<" else "item"
    if awaited == "item" or not brackets:
        return ""
    if mark == "," and brackets[-1] == "{":
        return "item"
    if mark != _CLOSING[brackets[-1]]:
        return ""
    return ">" if brackets.pop() == "(" else "more"
