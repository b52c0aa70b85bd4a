"""Rows: forms, least rows, texts, shapes, spots, joins and mirrors."""

import itertools
import random

from lexiconlines.errors import InvalidRow, NotJoined
from lexiconlines.rows import (
    is_row, is_sign, joined_rows, least_row, mirrored_row, read_sign, row_text, same_rows, shape, spot_at)
from tests.support import ANY_VALUES, LexiconCase, random_row

X, Y, XY = ("x",), ("y",), ("x", "y")
NO = ()
WRONG = [
    [NO, X, NO], (NO, NO, NO), (NO, NO), (NO, X), (NO, X, NO, NO), (NO, ["x"], NO), (NO, "x", NO), ("", X, ""), (None, X, NO),
    (NO, ("w",), NO), (NO, ("",), NO), (NO, ("xy",), NO), (NO, ("[x]",), NO), (NO, ("x", None), NO), (NO, (1,), NO),
    (NO, (X,), NO), (NO, X, ("[yx",)), (("[x(x)>]",), X, NO), (NO, ("[{y,x}]",), NO), (NO, (True,), NO), (["x"], NO, NO),
    (("x", ["x"]), NO, NO), (NO, X, {"x"}),
]


def sign_of(row, at):
    """The sign of a spot, by the words of the document."""
    left, middle, right = row
    if at < 0:
        return (left * -at)[at] if left else None
    return (middle + right * (at + 1))[at] if right or at < len(middle) else None


def told_least(row):
    """The least row, by trying all shorter rows."""
    left, middle, right = row
    if left and right:
        return told_both(row)
    if left:
        turned = told_upward((NO, middle[::-1], left[::-1]))
        return (turned[2][::-1], turned[1][::-1], NO)
    return told_upward(row) if right else row


def told_upward(row):
    _, middle, right = row
    for size in range(1, len(right) + 1):
        for begin in range(len(middle) + 1):
            signs = [sign_of(row, at) for at in range(begin, len(middle) + 2 * len(right) + size)]
            if signs[size:] == signs[:-size]:
                return (NO, tuple(sign_of(row, at) for at in range(begin)), tuple(signs[:size]))


def told_both(row):
    left, middle, right = row
    many = len(left) + len(middle) + len(right)
    far = -4 * many
    for size in range(1, len(left) + 1):
        if all(sign_of(row, at) == sign_of(row, at - size) for at in range(far, 0)):
            break
    unlike = [at for at in range(far, 3 * many) if sign_of(row, at) != sign_of(row, at - size)]
    if not unlike:
        whole = tuple(sign_of(row, at) for at in range(size))
        whole = min(whole[at:] + whole[:at] for at in range(size))
        return (whole, NO, whole)
    ahead = tuple(sign_of(row, at) for at in range(unlike[0] - size, unlike[0]))
    behind = tuple(sign_of(row, at) for at in range(unlike[0], unlike[0] + many))
    return (ahead,) + told_upward((NO, behind, tuple(sign_of(row, unlike[0] + many + at) for at in range(len(right)))))[1:]


class FormTest(LexiconCase):

    def test_is_row(self):
        for row in [(NO, X, NO), (X, NO, NO), (NO, NO, X), (X, NO, X), (X, Y, XY), (NO, ("[xy]", "[{x,y}]", "x"), NO),
                    (NO, X * 600, NO), (("[[(x)>][{[(x)>]}]]",), NO, NO), (NO, X, X), (("x", "x"), NO, X)]:
            self.assertIs(is_row(row), True, row)
        for value in WRONG:
            self.assertIs(is_row(value), False, value)
        self.assertEqual([value for value in ANY_VALUES if is_row(value)], [])
        self.assertIs(is_row(value=(NO, X, NO)), True)

    def test_errors(self):
        row = (NO, X, NO)
        for value in WRONG + ANY_VALUES:
            for call in (least_row, row_text, shape, mirrored_row):
                self.check_error(InvalidRow, {}, call, value)
            self.check_error(InvalidRow, {}, spot_at, value, 0)
            for call in (same_rows, joined_rows):
                self.check_error(InvalidRow, {}, call, value, row)
                self.check_error(InvalidRow, {}, call, row, value)
            self.check_error(InvalidRow, {}, joined_rows, (NO, NO, X), value)
            self.check_error(InvalidRow, {}, joined_rows, value, (X, NO, NO))

    def test_names_of_arguments(self):
        one, other = (NO, X, NO), (NO, Y, NO)
        self.assertEqual(least_row(row=one), one)
        self.assertEqual([row_text(row=one), shape(row=one), spot_at(row=one, at=0)], ["x", "finite", "x"])
        self.assertEqual([same_rows(one=one, other=other), joined_rows(one=one, other=other)], [False, (NO, XY, NO)])
        self.assertEqual(mirrored_row(row=one), one)


class LeastTest(LexiconCase):

    def test_finite(self):
        for row in [(NO, X, NO), (NO, XY, NO), (NO, ("x", "x", "x"), NO), (NO, ("[xy]", "y"), NO)]:
            self.assertEqual(least_row(row), row)

    def test_upward(self):
        self.assertEqual(least_row((NO, NO, XY * 3)), (NO, NO, XY))
        self.assertEqual(least_row((NO, X, Y * 2)), (NO, X, Y))
        self.assertEqual(least_row((NO, X * 3, X)), (NO, NO, X))
        self.assertEqual(least_row((NO, ("y", "x"), ("y", "x"))), (NO, NO, ("y", "x")))
        self.assertEqual(least_row((NO, ("z", "y"), XY)), (NO, ("z",), ("y", "x")))
        self.assertEqual(least_row((NO, ("x", "y", "x"), XY)), (NO, ("x", "y", "x"), XY))
        self.assertEqual(least_row((NO, ("y", "x", "y"), XY)), (NO, NO, ("y", "x")))

    def test_downward(self):
        self.assertEqual(least_row((XY * 3, NO, NO)), (XY, NO, NO))
        self.assertEqual(least_row((XY, ("x", "z"), NO)), (("y", "x"), ("z",), NO))
        self.assertEqual(least_row((X, X * 3 + Y, NO)), (X, Y, NO))

    def test_periodic_as_a_whole(self):
        self.assertEqual(least_row((X, NO, X)), (X, NO, X))
        self.assertEqual(least_row((X * 2, X * 3, X * 5)), (X, NO, X))
        self.assertEqual(least_row((("y", "x"), NO, ("y", "x"))), (XY, NO, XY))
        self.assertEqual(least_row((("y", "x"), Y, XY * 2)), (XY, NO, XY))
        self.assertEqual(least_row((("z", "x", "y"), ("z",), ("x", "y", "z"))), (("x", "y", "z"), NO, ("x", "y", "z")))
        self.assertEqual(least_row((("y", "x", "x"), NO, ("y", "x", "x"))), (("x", "x", "y"), NO, ("x", "x", "y")))

    def test_both(self):
        self.assertEqual(least_row((X, NO, Y)), (X, NO, Y))
        self.assertEqual(least_row((X, X * 2 + Y * 2, Y)), (X, NO, Y))
        self.assertEqual(least_row((X, Y, X)), (X, Y, X))
        self.assertEqual(least_row((X, X + Y + X, X)), (X, Y, X))
        # It is periodic but for one sign.
        self.assertEqual(least_row((XY, Y, XY)), (XY, NO, ("y", "x")))
        self.assertEqual(least_row((XY, ("x",), XY)), (("y", "x"), NO, XY))
        # The first spot that is not as the left period tells stands within the right one.
        self.assertEqual(least_row((XY, NO, ("x", "y", "x", "z"))), (("y", "x"), NO, ("z", "x", "y", "x")))
        self.assertEqual(least_row((XY, XY + X, ("y", "x", "y", "z"))), (XY, NO, ("z", "y", "x", "y")))

    def test_all_short_rows(self):
        parts = [part for many in range(4) for part in itertools.product("xy", repeat=many)]
        for row in itertools.product(parts, repeat=3):
            if any(row):
                self.assertEqual(least_row(row), told_least(row), row)

    def test_random_rows(self):
        dice = random.Random(151)
        for _ in range(1500):
            row = random_row(dice, ["x", "y", "[xy]"], most=6)
            least = least_row(row)
            self.assertEqual(least, told_least(row), row)
            self.assertEqual(least_row(least), least)
            self.assertIs(same_rows(row, least), True)
            self.assertEqual(read_sign(row_text(row)), ("row", least) if shape(row) != "finite" or len(row[1]) > 1
                             else read_sign(row[1][0]))

    def test_long_rows(self):
        signs = tuple("xyz"[(at * at) % 3] for at in range(600))
        self.assertEqual(least_row((signs, NO, signs)), told_least((("x", "y", "y"), NO, ("x", "y", "y"))))
        many = tuple("xy"[at == 599] for at in range(600))
        turned = many[5:] + many[:5]
        self.assertEqual(least_row((turned, NO, turned)), (many, NO, many))

    def test_same_rows(self):
        self.assertIs(same_rows((NO, X, X), (NO, NO, X)), True)
        self.assertIs(same_rows((XY, NO, XY), (("y", "x"), NO, ("y", "x"))), True)
        self.assertIs(same_rows((XY, X, Y), (("y", "x"), X, Y)), False)
        self.assertIs(same_rows((NO, X, NO), (NO, NO, X)), False)
        self.assertIs(same_rows((NO, NO, X), (X, NO, NO)), False)
        dice = random.Random(152)
        for _ in range(300):
            one, other = random_row(dice, ["x", "y"], 2), random_row(dice, ["x", "y"], 2)
            self.assertIs(same_rows(one, other), told_least(one) == told_least(other))


class TextTest(LexiconCase):

    def test_texts(self):
        for row, text in [
            ((NO, X, NO), "x"), ((NO, ("[xy]",), NO), "[xy]"), ((NO, XY, NO), "[xy]"), ((NO, X, Y), "[x(y)>]"),
            ((XY, NO, NO), "[<(xy)]"), ((X, Y, NO), "[<(x)y]"), ((X, NO, X), "[<(x)>]"), ((X, NO, Y), "[<(x)(y)>]"),
            ((X, Y, X), "[<(x)y(x)>]"), ((NO, NO, X), "[(x)>]"), ((NO, X, X), "[(x)>]"), ((X, X, X), "[<(x)>]"),
            ((("y", "x"), NO, ("y", "x")), "[<(xy)>]"), ((NO, ("[(x)>]", "[{x,y}]"), NO), "[[(x)>][{x,y}]]"),
            ((XY, Y, XY), "[<(xy)(yx)>]"), ((NO, NO, ("[xy]",)), "[([xy])>]"),
        ]:
            self.assertEqual(row_text(row), text)
            self.assertIs(is_sign(text), True)

    def test_shapes(self):
        for row, told in [((NO, X, NO), "finite"), ((NO, X, Y), "upward"), ((NO, NO, X), "upward"), ((X, Y, NO), "downward"),
                          ((X, NO, NO), "downward"), ((X, NO, X), "both"), ((X, Y, X), "both")]:
            self.assertEqual(shape(row), told)


class SpotTest(LexiconCase):

    def test_spots(self):
        row = (("x", "y"), ("z",), ("y", "x", "x"))
        self.assertEqual([spot_at(row, at) for at in range(-5, 8)], list("yxyxyz" + "yxxyxxy"))
        self.assertEqual([spot_at((NO, XY, NO), at) for at in (-1, 0, 1, 2)], [None, "x", "y", None])
        self.assertEqual([spot_at((NO, X, Y), at) for at in (-1, 0, 1, 10 ** 30)], [None, "x", "y", "y"])
        self.assertEqual([spot_at((XY, NO, NO), at) for at in (-10 ** 30, -2, -1, 0, 1)], ["x", "x", "y", None, None])
        self.assertEqual([spot_at((NO, NO, XY), at) for at in (-1, 0, 1, 2, 10 ** 30 + 1)], [None, "x", "y", "x", "y"])

    def test_random_spots(self):
        dice = random.Random(153)
        for _ in range(300):
            row = random_row(dice, ["x", "y", "[{x}]"])
            for at in range(-12, 15):
                self.assertEqual(spot_at(row, at), sign_of(row, at))


class JoinTest(LexiconCase):

    def test_joins(self):
        self.assertEqual(joined_rows((NO, X, NO), (NO, X, NO)), (NO, ("x", "x"), NO))
        self.assertEqual(joined_rows((NO, X, NO), (NO, NO, X)), (NO, NO, X))
        self.assertEqual(joined_rows((XY, NO, NO), (NO, XY, XY)), (XY, NO, XY))
        self.assertEqual(joined_rows((XY, NO, NO), (NO, Y, NO)), (XY, Y, NO))
        self.assertEqual(joined_rows((X, Y, NO), (NO, Y, X)), (X, ("y", "y"), X))

    def test_rows_that_do_not_meet(self):
        open_at_right = [(NO, NO, X), (NO, X, Y), (X, NO, X)]
        open_at_left = [(X, NO, NO), (X, Y, NO), (X, NO, X)]
        for one in open_at_right:
            for other in open_at_left + [(NO, X, NO), (NO, NO, Y)]:
                self.check_error(NotJoined, {}, joined_rows, one, other)
        for other in open_at_left:
            for one in [(NO, X, NO), (X, NO, NO)]:
                self.check_error(NotJoined, {}, joined_rows, one, other)

    def test_random_joins(self):
        dice = random.Random(154)
        for _ in range(300):
            one, other = random_row(dice, ["x", "y"]), random_row(dice, ["x", "y"])
            if one[2] or other[0]:
                self.check_error(NotJoined, {}, joined_rows, one, other)
            else:
                self.assertEqual(joined_rows(one, other), told_least((one[0], one[1] + other[1], other[2])))


class MirrorTest(LexiconCase):

    def test_mirrors(self):
        self.assertEqual(mirrored_row((NO, XY, NO)), (NO, ("y", "x"), NO))
        self.assertEqual(mirrored_row((NO, X, Y)), (Y, X, NO))
        self.assertEqual(mirrored_row((XY, NO, XY)), (XY, NO, XY))
        self.assertEqual(mirrored_row((NO, NO, ("[xy]",))), (("[xy]",), NO, NO))
        self.assertEqual(mirrored_row((("x", "z", "y"), NO, ("x", "z", "y"))), (("x", "y", "z"), NO, ("x", "y", "z")))

    def test_random_mirrors(self):
        dice = random.Random(155)
        for _ in range(400):
            row = random_row(dice, ["x", "y", "[xy]"])
            mirror = mirrored_row(row)
            self.assertEqual(mirror, told_least((row[2][::-1], row[1][::-1], row[0][::-1])))
            self.assertEqual(mirrored_row(mirror), told_least(row))
