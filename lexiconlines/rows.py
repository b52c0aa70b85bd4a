"""Rows of signs: least rows, texts, shapes; and sign texts."""

from lexiconlines.errors import InvalidRow, InvalidSign, NotJoined
from lexiconlines.rowforms import even_text, least_form, row_sign, turned
from lexiconlines.signforms import are_signs, sign_shapes
from lexiconlines.values import is_list


def is_row(value):
    """Whether any value is a row of sign texts."""
    if not isinstance(value, tuple) or len(value) != 3:
        return False
    if not all([isinstance(part, tuple) for part in value]):
        return False
    signs = [sign for part in value for sign in part]
    return len(signs) > 0 and are_signs(signs)


def is_sign(value):
    """Whether any value is a sign text."""
    return sign_shapes(value) is not None


def least_row(row):
    """The least row of the line of a row."""
    _check_row(row)
    return least_form(row)


def row_text(row):
    """The text of a row."""
    _check_row(row)
    return row_sign(row)


def shape(row):
    """The shape of a row: finite, upward, downward or both."""
    _check_row(row)
    left, _, right = row
    if left:
        return "both" if right else "downward"
    return "upward" if right else "finite"


def spot_at(row, at):
    """The sign of the spot with an index, or None."""
    _check_row(row)
    left, middle, right = row
    if at < 0:
        return left[at % len(left)] if left else None
    if at < len(middle):
        return middle[at]
    return right[(at - len(middle)) % len(right)] if right else None


def same_rows(one, other):
    """Whether two rows are rows of the same line."""
    _check_row(one)
    _check_row(other)
    return least_form(one) == least_form(other)


def joined_rows(one, other):
    """The least row of the line of one row behind that of another one."""
    _check_row(one)
    _check_row(other)
    if one[2] or other[0]:
        raise NotJoined()
    return least_form((one[0], one[1] + other[1], other[2]))


def mirrored_row(row):
    """The least row of the line in the opposite order."""
    _check_row(row)
    return least_form(turned(row))


def even_sign(signs):
    """The even sign with the signs of a list."""
    if not is_list(signs) or len(signs) == 0 or not are_signs(signs):
        raise InvalidSign()
    return even_text(signs)


def read_sign(text):
    """What a sign text tells: a color, a least row, or the signs of an even sign."""
    shapes = sign_shapes(text)
    if shapes is None:
        raise InvalidSign()
    return shapes[text]


def _check_row(value):
    if not is_row(value):
        raise InvalidRow()
