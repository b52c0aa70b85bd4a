"""Expansions of signs."""

from lexiconlines.bounds import bounded, bounded_sum
from lexiconlines.errors import InvalidSign
from lexiconlines.signforms import sign_shapes
from lexiconlines.terms import shuffle_of, single


def expansion(sign):
    """The term of colors alone of the line from which a sign was folded."""
    shapes = sign_shapes(sign)
    if shapes is None:
        raise InvalidSign()
    made = {}
    for text, (kind, told) in shapes.items():
        if kind == "row":
            left, middle, right = [[made[inner] for inner in part] for part in told]
            terms = [bounded_sum(left).down()] + middle + [bounded_sum(right).up()]
            made[text] = bounded_sum(terms)
        elif kind == "even":
            made[text] = bounded(shuffle_of([made[inner] for inner in told]))
        else:
            made[text] = single(text)
    return made[sign]
