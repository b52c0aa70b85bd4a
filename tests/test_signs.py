"""Sign texts: which there are, how they are read, mirrored and expanded."""

import itertools
import random

from lexiconlines.errors import InvalidSign, TooMany
from lexiconlines.rows import even_sign, is_row, is_sign, least_row, mirrored_row, read_sign, row_text
from lexiconlines.signs import expansion
from lexiconlines.terms import Term, mirrored_sign, sign_term
from tests.support import ANY_VALUES, LexiconCase, random_row

MARKS = "xy[]<>(){},"
WRONG = [
    "", "xy", "w", "X", " x", "x ", "x\n", "0", "[", "]", "[]", "[x]", "[[xy]]", "[xy", "xy]", "[xy]x", "[xy][xy]", "[(xx)>]",
    "[x(x)>]", "[(x)]", "[(x)>x]", "[<(x)", "[<x]", "[<(xx)]", "[<(x)x]", "[<(x)(x)>]", "[<(yx)>]", "[<(x)x(y)>]",
    "[<(x)y(y)>]", "[()>]", "[<()]", "[<()>]", "[<()x]", "[x()>]", "[{}]", "[{y,x}]", "[{x,x}]", "[{x,}]", "[{,x}]", "[{x}x]",
    "[x{x}]", "{x}", "(x)>", "[{xy}]", "[{x,[x]}]", "[x,y]", "[<(x)>y]", "[<(x)><(x)>]", "[((x)>)>]", "[<(<(x))]", "[{{x}}]",
    "[{(x)>}]", "[x>]", "[x(y)>>]", "[x(y)", "[x(y]>]", "]xy[", "[xy]]", "[[xy]", "[{x},{y}]", "[{x;y}]", "[ xy]", "[x y]",
]
RIGHT = [
    "x", "y", "z", "[xy]", "[xx]", "[(x)>]", "[x(y)>]", "[<(xy)]", "[<(x)y]", "[<(x)>]", "[<(xy)>]", "[<(x)(y)>]",
    "[<(x)y(x)>]", "[{x}]", "[{x,y}]", "[{x,y,z}]", "[[xy]x]", "[{[xy],x}]", "[[(x)>][{[(x)>]}]]", "[[{x}][{x}]]", "[{[{x}]}]",
    "[([xy])>]", "[<([(x)>])]", "[<([{x}])y([xy])>]", "[{[(x)>],[x(y)>],x}]",
]


def all_signs(most):
    """All sign texts of x and y of at most so many characters, written by the rules of rows and even signs."""
    found = {"x", "y"}
    while True:
        rows = {}
        for many in range(most - 1):
            rows[many] = [()] if many == 0 else [
                (sign,) + row for sign in sorted(found) if len(sign) <= many for row in rows[many - len(sign)]]
        more = set(found)
        for many, middles in rows.items():
            more |= {row_text(((), middle, ())) for middle in middles if middle}
            for ahead in range(1, most - 4 - many):
                more |= {row_text((left, middle, ())) for left in rows[ahead] for middle in middles}
                more |= {row_text(((), middle, right)) for right in rows[ahead] for middle in middles}
                for behind in range(1, most - 7 - many - ahead):
                    more |= {row_text(row) for row in itertools.product(rows[ahead], middles, rows[behind])}
            more |= {row_text((whole, (), whole)) for whole in middles if whole}
            more |= {even_sign(signs) for signs in middles if signs}
        more = {sign for sign in more if len(sign) <= most}
        if more == found:
            return found
        found = more


def bent(text):
    """All texts with one character left out, put in or changed."""
    for at in range(len(text) + 1):
        yield text[:at] + text[at + 1:]
        for mark in MARKS:
            yield text[:at] + mark + text[at:]
            yield text[:at] + mark + text[at + 1:]


def nested(many):
    """A sign text in which brackets stand so many deep."""
    sign = "x"
    for at in range(many):
        sign = even_sign([sign, "y"]) if at % 2 else row_text(((), ("x",), (sign, "y")))
    return sign


class IsSignTest(LexiconCase):

    def test_signs(self):
        for text in RIGHT:
            self.assertIs(is_sign(text), True, text)
            self.assertEqual(sign_term(text).text(), text)
        for text in WRONG:
            self.assertIs(is_sign(text), False, text)
        self.assertEqual([value for value in ANY_VALUES if is_sign(value)], ["x", "[xy]"])
        self.assertIs(is_sign(value="x"), True)

    def test_all_short_texts(self):
        signs = all_signs(9)
        self.assertGreater(len(signs), 800)
        for many in range(5):
            for row in itertools.product(MARKS, repeat=many):
                self.assertIs(is_sign("".join(row)), "".join(row) in signs)
        for sign in sorted(signs):
            self.assertIs(is_sign(sign), True, sign)
            if len(sign) < 9:
                for text in bent(sign):
                    self.assertIs(is_sign(text), text in signs, text)

    def test_deep_signs(self):
        for many in (20, 40, 150):
            text = nested(many)
            self.assertIs(is_sign(text), True)
            self.assertIs(is_sign(text[:-1]), False)
            self.assertIs(is_sign("[" + text + "]"), False)
            self.assertIs(is_sign(text.replace("x", "[x]", 1)), False)

    def test_errors(self):
        for value in WRONG + [value for value in ANY_VALUES if value not in ("x", "[xy]")]:
            for call in (read_sign, sign_term, mirrored_sign, expansion):
                self.check_error(InvalidSign, {}, call, value)


class ReadTest(LexiconCase):

    def test_colors_rows_and_even_signs(self):
        self.assertEqual(read_sign("y"), ("color", "y"))
        self.assertEqual(read_sign("[xy]"), ("row", ((), ("x", "y"), ())))
        self.assertEqual(read_sign("[x(y)>]"), ("row", ((), ("x",), ("y",))))
        self.assertEqual(read_sign("[<(xy)]"), ("row", (("x", "y"), (), ())))
        self.assertEqual(read_sign("[<(xy)>]"), ("row", (("x", "y"), (), ("x", "y"))))
        self.assertEqual(read_sign(text="[<([xy])z(y[{x}])>]"), ("row", (("[xy]",), ("z",), ("y", "[{x}]"))))
        self.assertEqual(read_sign("[{x}]"), ("even", ("x",)))
        self.assertEqual(read_sign("[{[(x)>],[{y}],z}]"), ("even", ("[(x)>]", "[{y}]", "z")))

    def test_what_is_read_gives_the_text(self):
        for text in RIGHT:
            kind, told = read_sign(text)
            if kind == "row":
                self.assertIs(is_row(told), True)
                self.assertEqual((least_row(told), row_text(told)), (told, text))
            elif kind == "even":
                self.assertEqual((told.__class__, even_sign(told)), (tuple, text))
            else:
                self.assertEqual(told, text)

    def test_even_sign(self):
        self.assertEqual(even_sign(["x"]), "[{x}]")
        self.assertEqual(even_sign(["y", "x", "y"]), "[{x,y}]")
        self.assertEqual(even_sign(("y", "[xy]", "[{x}]", "[(x)>]")), "[{[(x)>],[xy],[{x}],y}]")
        self.assertEqual(even_sign(signs=["[{x,y}]"]), "[{[{x,y}]}]")
        for value in ANY_VALUES + ["x", "xy", "[xy]", [], (), ["x", "xy"], ["x", None], ["x", 1], [["x"]], ("x", ["y"]), {"x": 1}]:
            if value != ("[xy]",):
                self.check_error(InvalidSign, {}, even_sign, value)


class MirrorTest(LexiconCase):

    def test_mirrors(self):
        for sign, mirror in [("x", "x"), ("[xy]", "[yx]"), ("[x(y)>]", "[<(y)x]"), ("[<(xy)>]", "[<(xy)>]"),
                             ("[<(xyz)>]", "[<(xzy)>]"), ("[{x,y}]", "[{x,y}]"), ("[[xy]z]", "[z[yx]]"),
                             ("[{[(x)>],[<(y)]}]", "[{[(y)>],[<(x)]}]"), ("[[(x)>][{[(x)>]}]]", "[[{[<(x)]}][<(x)]]")]:
            self.assertEqual(mirrored_sign(sign), mirror)
            self.assertEqual(mirrored_sign(sign=mirror), sign)

    def test_random_mirrors(self):
        dice = random.Random(161)
        signs = ["x", "y"]
        for _ in range(300):
            row = random_row(dice, signs, 3)
            sign = row_text(row) if dice.random() < 0.7 else even_sign([*row[0], *row[1], *row[2]])
            mirror = mirrored_sign(sign)
            self.assertIs(is_sign(mirror), True)
            self.assertEqual(mirrored_sign(mirror), sign)
            kind, told = read_sign(sign)
            if kind == "row":
                parts = mirrored_row(told)
                self.assertEqual(row_text(tuple(tuple(mirrored_sign(inner) for inner in part) for part in parts)), mirror)
            signs.append(sign if len(sign) < 60 else "z")

    def test_deep_mirrors(self):
        text = nested(150)
        self.assertEqual(mirrored_sign(mirrored_sign(text)), text)


class ExpansionTest(LexiconCase):

    def test_expansions(self):
        for sign, text in [
            ("x", "x"), ("[xy]", "xy"), ("[(x)>]", "(x)>"), ("[x(y)>]", "x(y)>"), ("[<(xy)]", "<(xy)"), ("[<(x)>]", "<(x)(x)>"),
            ("[<(x)z(xy)>]", "<(x)z(xy)>"), ("[{x}]", "{x}"), ("[{x,y}]", "{x,y}"), ("[[(x)>][{[(x)>]}]]", "(x)>{(x)>}"),
            ("[([xy]z)>]", "(xyz)>"), ("[{[(x)>],[<(y)],z}]", "{(x)>,<(y),z}"), ("[{[{x}]}]", "{{x}}"),
        ]:
            self.assertEqual(expansion(sign).text(), text)
        self.assertIsInstance(expansion(sign="x"), Term)

    def test_expansions_have_colors_alone(self):
        for text in RIGHT + [nested(40), nested(150)]:
            self.assertEqual([sign for sign in expansion(text).signs() if sign not in "xyz"], [])

    def test_too_many_items(self):
        long = row_text(((), ("x",) * 600, ()))
        row = row_text(((), (long,) * 6 + ("x",) * 400, ()))
        self.assertEqual(len(expansion(row)), 4000)
        self.check_error(TooMany, {"count": 4000}, expansion, row_text(((), (long,) * 6 + ("x",) * 401, ())))
        self.assertEqual(len(expansion(row_text(((), (), (long,) * 6 + ("x",) * 398 + ("y",))))), 4000)
        self.check_error(TooMany, {"count": 4000}, expansion, row_text(((), (), (long,) * 6 + ("x",) * 399 + ("y",))))
        self.assertEqual(len(expansion(even_sign([row_text(((), (long,) * 6 + ("x",) * 399, ()))]))), 4000)
        self.check_error(TooMany, {"count": 4000}, expansion, even_sign([row]))
