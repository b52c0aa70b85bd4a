"""Any number of steps from a word, up or down, where both may be very far away."""

from lexiconlines.errors import BlockEnds, InvalidNumber, NoWord
from lexiconlines.far import far_color
from lexiconlines.runs import tidied
from lexiconlines.stairs import Stairs
from lexiconlines.values import is_number_in

_MOST_STEPS = 10 ** 30


def step(book, far, *, by=1):
    """The far word that is by steps up from a word of a book, or -by steps down."""
    if not is_number_in(by, -_MOST_STEPS, _MOST_STEPS):
        raise InvalidNumber(by)
    if far_color(book, far) == "":
        raise NoWord(far, None)
    if by == 0:
        return far
    pairs, missing = Stairs(book.nodes(), by > 0).steps_from(far, abs(by))
    if pairs is None:
        raise BlockEnds(abs(by) - missing)
    return tidied(pairs)
