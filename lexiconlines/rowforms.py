"""Least rows and the texts of rows and even signs, for values whose form is right."""


def least_form(row):
    """The least row of the line of a row."""
    left, middle, right = row
    if left and right:
        return _least_both(left, middle, right)
    if right:
        return _least_upward(middle, right)
    if left:
        return turned(_least_upward(middle[::-1], left[::-1]))
    return row


def turned(row):
    """A row of the line in the opposite order; it is the least one exactly if the row is."""
    left, middle, right = row
    return (right[::-1], middle[::-1], left[::-1])


def row_sign(row):
    """The text of a row."""
    left, middle, right = least_form(row)
    if not left and not right and len(middle) == 1:
        return middle[0]
    ahead = "<(" + "".join(left) + ")" if left else ""
    behind = "(" + "".join(right) + ")>" if right else ""
    # Among least rows with two equal periods only those that are periodic as a whole have no middle.
    if left == right and not middle:
        return "[" + ahead + ">]"
    return "[" + ahead + "".join(middle) + behind + "]"


def even_text(signs):
    """The even sign with some signs."""
    return "[{" + ",".join(sorted(set(signs))) + "}]"


def _root(signs):
    """The shortest tuple of signs that gives a tuple if it is repeated."""
    many = len(signs)
    for size in range(1, many // 2 + 1):
        if many % size == 0 and signs[size:] == signs[:many - size]:
            return signs[:size]
    return signs


def _least_upward(middle, right):
    period = _root(right)
    size = len(period)
    many = len(middle)
    while many > 0 and middle[many - 1] == period[(many - 1 - len(middle)) % size]:
        many -= 1
    turn = (many - len(middle)) % size
    return ((), middle[:many], period[turn:] + period[:turn])


def _least_both(left, middle, right):
    period = _root(left)
    size = len(period)
    # Behind so many spots the right period has been compared with the left one in each of its spots.
    spots = period + middle + _repeated(right, len(right) + size)
    for at in range(size, len(spots)):
        if spots[at] != spots[at - size]:
            return (spots[at - size:at],) + _least_from(middle, right, at - size)[1:]
    whole = _least_rotation(period)
    return (whole, (), whole)


def _least_from(middle, right, at):
    """The least row of what stands in an upward row from an index on."""
    if at <= len(middle):
        return _least_upward(middle[at:], right)
    turn = (at - len(middle)) % len(right)
    return _least_upward((), right[turn:] + right[:turn])


def _repeated(signs, many):
    """The first so many signs of a tuple that is repeated without end."""
    return (signs * (many // len(signs) + 1))[:many]


def _least_rotation(signs):
    least = signs
    for at in range(1, len(signs)):
        if signs[at] <= least[0]:
            least = min(least, signs[at:] + signs[:at])
    return least
