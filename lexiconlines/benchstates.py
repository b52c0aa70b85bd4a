"""States of benches: pairs of a dict of books by names and a limit, and what deeds make of them.

A state never changes; deeds make a new one.
"""

from lexiconlines.deeds import check_names, is_deed, made_by
from lexiconlines.errors import Full, InvalidDeed, UnknownName

FIRST_LIMIT = 8


def after_deeds(state, deeds):
    """The state behind some deeds, each of which may be any value."""
    for at, deed in enumerate(deeds):
        if not is_deed(deed):
            raise InvalidDeed(at)
    for deed in deeds:
        state = _after_deed(state, deed)
    return state


def kept_book(state, name):
    """The book under any value as a name."""
    if not isinstance(name, str) or name not in state[0]:
        raise UnknownName(name)
    return state[0][name]


def kept_names(state):
    """The ascending list of the names of the books."""
    return sorted(state[0])


def state_text(state):
    """The text of a bench with a state."""
    books, most = state
    texts = [f"book {name}\n{books[name].text()}end\n" for name in sorted(books)]
    return f"limit {most}\n" + "".join(texts)


def _after_deed(state, deed):
    books, most = state
    if deed[0] == "limit":
        if deed[1] < len(books):
            raise Full(deed[1])
        return (books, deed[1])
    check_names(deed, books)
    kept = {name: books[name] for name in books}
    if deed[0] == "drop":
        del kept[deed[1]]
        return (kept, most)
    if deed[1] not in books and len(books) == most:
        raise Full(most)
    kept[deed[1]] = made_by(deed, books)
    return (kept, most)
