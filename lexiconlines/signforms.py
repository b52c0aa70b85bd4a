"""Sign texts taken apart: the shapes of a sign and of all signs in it.

A shape is ("color", sign), ("row", row) with the least row, or ("even", signs).
"""

from lexiconlines.rowforms import even_text, row_sign, turned
from lexiconlines.words import is_color


def sign_shapes(value):
    """The shapes of all signs in a sign text by their texts, inner ones first; None for any value that is none."""
    if not isinstance(value, str):
        return None
    shapes = {}
    tokens = []
    starts = []
    for at, mark in enumerate(value):
        token = mark
        if mark == "[":
            starts.append((at, len(tokens)))
            continue
        if is_color(mark):
            shapes[mark] = ("color", mark)
        if mark == "]":
            if not starts:
                return None
            first, many = starts.pop()
            token = value[first:at + 1]
            if token not in shapes:
                shape = _shape(tokens[many:])
                if shape is None or _shape_text(shape) != token:
                    return None
                shapes[token] = shape
            while len(tokens) > many:
                tokens.pop()
        tokens.append(token)
    return shapes if value in shapes else None


def are_signs(values):
    """Whether all values of a list are sign texts."""
    known = {}
    for value in values:
        if not isinstance(value, str):
            return False
        if value not in known:
            known[value] = sign_shapes(value) is not None
    return all(list(known.values()))


def mirrored_text(sign):
    """The mirrored sign of a sign text."""
    mirrored = {}
    for text, (kind, told) in sign_shapes(sign).items():
        if kind == "row":
            left, middle, right = [tuple([mirrored[inner] for inner in part]) for part in turned(told)]
            mirrored[text] = row_sign((left, middle, right))
        elif kind == "even":
            mirrored[text] = even_text([mirrored[inner] for inner in told])
        else:
            mirrored[text] = text
    return mirrored[sign]


def _shape_text(shape):
    kind, told = shape
    return even_text(told) if kind == "even" else row_sign(told)


def _shape(tokens):
    """The shape that is written between square brackets, or None; each token is a sign or a single character."""
    if tokens[:1] == ["{"]:
        signs = tuple(tokens[1:-1:2])
        return ("even", signs) if signs and _all_signs(signs) else None
    row = _row(tokens)
    signs = [sign for part in row for sign in part]
    return ("row", row) if signs and _all_signs(signs) else None


def _row(tokens):
    """The row that is written in some tokens; whether it is one shows when it is written again."""
    left = right = ()
    if tokens[:2] == ["<", "("] and ")" in tokens:
        end = tokens.index(")")
        left = tuple(tokens[2:end])
        tokens = tokens[end + 1:]
        if tokens == [">"]:
            return (left, (), left)
    if tokens[-2:] == [")", ">"] and "(" in tokens:
        begin = tokens.index("(")
        right = tuple(tokens[begin + 1:-2])
        tokens = tokens[:begin]
    return (left, tuple(tokens), right)


def _all_signs(tokens):
    return all([is_color(token) or token[0] == "[" for token in tokens])
