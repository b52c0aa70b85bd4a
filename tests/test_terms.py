"""Terms: their form, texts, operations, mirrors and fillings."""

import random

from lexiconlines.errors import InvalidColor, InvalidNumber
from lexiconlines.keys import key_of
from lexiconlines.terms import Term, mirrored_sign, sign_term
from tests.support import ANY_VALUES, TWO, LexiconCase, grown, random_term, total

EMPTY = Term.empty()
X, Y, Z = Term.spot("x"), Term.spot("y"), Term.spot("z")


def term(text):
    return Term.read(text)


class FormTest(LexiconCase):

    def check_form(self, one):
        """Checks that a term and all within it have the form of the document, and its attributes."""
        texts = [part.text() for part in one.parts]
        self.assertEqual((one.kind.__class__, one.sign.__class__, one.parts.__class__), (str, str, tuple))
        if one.kind == "empty":
            told = ("0", 0, 0, "", [])
        elif one.kind == "sign":
            told = (one.sign, 1, 0, one.sign, [])
        elif one.kind == "sum":
            self.assertGreaterEqual(len(texts), 2)
            self.assertFalse({part.kind for part in one.parts} & {"sum", "empty"})
            told = ("".join(texts), 0, 0, "", texts)
        elif one.kind == "shuffle":
            self.assertEqual(texts, sorted(set(texts) - {"0"}))
            self.assertNotEqual(texts, [])
            told = ("{" + ",".join(texts) + "}", 1, 1, "", texts)
        else:
            self.assertEqual(len(texts), 1)
            self.assertNotEqual(texts, ["0"])
            told = ((f"({texts[0]})>" if one.kind == "up" else f"<({texts[0]})"), 1, 1, "", texts)
        for part in one.parts:
            self.check_form(part)
        items = told[1] + sum(len(part) for part in one.parts)
        height = told[2] + max([part.height for part in one.parts], default=0)
        self.assertEqual((one.text(), len(one), one.height, one.sign, texts), (told[0], items, height, *told[3:]))

    def test_attributes(self):
        self.assertEqual((EMPTY.kind, EMPTY.sign, EMPTY.parts), ("empty", "", ()))
        self.assertEqual((X.kind, X.sign, X.parts), ("sign", "x", ()))
        one = term("x{x,y}")
        self.assertEqual((one.kind, one.sign, one.parts), ("sum", "", (X, term("{x,y}"))))
        self.assertEqual((one.parts[1].kind, one.parts[1].parts), ("shuffle", (X, Y)))
        self.assertEqual((term("(xy)>").kind, term("(xy)>").parts), ("up", (term("xy"),)))
        self.assertEqual((term("<(xy)").kind, term("<(xy)").parts), ("down", (term("xy"),)))
        sign = sign_term("[<(x)y]")
        self.assertEqual((sign.kind, sign.sign, sign.parts, sign.text(), len(sign)), ("sign", "[<(x)y]", (), "[<(x)y]", 1))

    def test_the_empty_term_in_each_operation(self):
        for one in (EMPTY + EMPTY, EMPTY.up(), EMPTY.down(), EMPTY.mirror(), -EMPTY, EMPTY * 7, X * 0, Term.shuffle(),
                    Term.shuffle(EMPTY), Term.shuffle(EMPTY, EMPTY), EMPTY.filled(x=X), X.filled(x=EMPTY), total(), term("0"),
                    term("(x{x})><(x)").filled(x=EMPTY)):
            self.assertEqual((one.kind, one.text(), len(one), one.height, one.is_empty, one.signs()), ("empty", "0", 0, 0, True, []))
        self.assertEqual([(X + EMPTY).text(), (EMPTY + X).text(), Term.shuffle(EMPTY, X).text()], ["x", "x", "{x}"])

    def test_sums(self):
        self.assertEqual((X + Y).text(), "xy")
        one = (X + Y) + (Z + X.up())
        self.assertEqual(one.text(), "xyz(x)>")
        self.assertEqual([part.text() for part in one.parts], ["x", "y", "z", "(x)>"])
        self.check_form(one)

    def test_copies(self):
        self.assertEqual([(X * 0).text(), (X * 1).text(), (X * 3).text(), ((X + Y) * 2).text()], ["0", "x", "xxx", "xyxy"])
        self.assertEqual(len(X * 40), 40)
        self.assertEqual((X * 1).kind, "sign")
        for value in [41, -1, 10 ** 30, True, False] + [value for value in ANY_VALUES if value.__class__ is not int]:
            self.check_error(InvalidNumber, {"number": value}, lambda told: X * told, value)

    def test_up_and_down(self):
        self.assertEqual([X.up().text(), X.down().text(), (X + Y).up().down().text()], ["(x)>", "<(x)", "<((xy)>)"])

    def test_shuffles(self):
        self.assertEqual(Term.shuffle(Y, X, Y, EMPTY, X).text(), "{x,y}")
        self.assertEqual(Term.shuffle(X.up(), X, X.down(), X + X, Term.shuffle(X)).text(), "{(x)>,<(x),x,xx,{x}}")
        self.assertEqual(Term.shuffle(*[X * many for many in range(1, 40)]).text().count(","), 38)
        self.check_form(Term.shuffle(X + Y, Y.up(), X + Y))

    def test_items_and_heights(self):
        for text, items, height in [("0", 0, 0), ("x", 1, 0), ("xyx", 3, 0), ("(x)>", 2, 1), ("x(x)><(xy)", 6, 1), ("{x,y}", 3, 1),
                                    ("{{x},(x{y})>}", 7, 3), ("x<((x)>)", 4, 2)]:
            self.assertEqual((len(term(text)), term(text).height), (items, height), text)

    def test_great_heights(self):
        for many in (150, 200, 900):
            for step in (lambda one, at: one.up(), lambda one, at: one.down() + X, lambda one, at: Term.shuffle(one, Y)):
                one = grown(many, step)
                self.assertEqual((one.height, (-one).height, one.filled(x=Y, y=X).height), (many, many, many))
                self.assertEqual(-(-one), one)
                self.assertLessEqual(len(one.signs()), 2)
                self.assertEqual(len(repr(one)), len(one.text()) + 6)

    def test_random_forms(self):
        dice = random.Random(171)
        for _ in range(200):
            one, other = random_term(dice, 3, "xyz"), random_term(dice, 2, "xy")
            for made in (one, one + other, one * 2, one.up(), one.down(), -one, Term.shuffle(one, other, one), one.filled(x=other)):
                self.check_form(made)
                self.assertEqual(made.signs(), sorted(set(made.text()) & set("xyz")))
                self.assertEqual((str(made), repr(made)), (made.text(), f"Term({made.text()})"))


class OperatorsTest(LexiconCase):

    def test_equality(self):
        self.assertEqual(X + (Y + Z), (X + Y) + Z)
        self.assertEqual(Term.shuffle(X, Y), Term.shuffle(Y, X, Y))
        self.assertNotEqual(X, Y)
        self.assertNotEqual(X.up(), X.down())
        self.assertNotEqual(X.up(), X + X.up())
        self.assertEqual(sign_term("x"), X)
        for value in ANY_VALUES:
            if not isinstance(value, Term):
                self.assertIs(X == value, False)
                self.assertIs(X != value, True)
        self.assertIs(X == "x", False)

    def test_truth(self):
        for one in (EMPTY, X, term("{x}")):
            self.assertIs(bool(one), True)
        self.assertIs(X.is_empty, False)

    def test_spots(self):
        self.assertEqual([Term.spot(color).text() for color in "xyz"], ["x", "y", "z"])
        for value in ANY_VALUES:
            if value != "x":
                self.check_error(InvalidColor, {"color": value}, Term.spot, value)
        self.assertEqual(Term.spot(color="x"), X)

    def test_terms_never_change(self):
        one = term("x{x,y}(z)>")
        for call in (lambda: one + one, lambda: one * 3, one.up, one.down, one.mirror, lambda: one.filled(x=Y), one.signs):
            call()
            self.assertEqual((one.text(), len(one), one.height), ("x{x,y}(z)>", 6, 1))
        one.signs().clear()
        self.assertEqual(one.signs(), ["x", "y", "z"])


class MirrorTest(LexiconCase):

    def test_mirrors(self):
        for text, mirror in [("x", "x"), ("xyz", "zyx"), ("(xy)>", "<(yx)"), ("<(xy)", "(yx)>"), ("{(x)>,xy}", "{<(x),yx}"),
                             ("(x)>y<((xy)>{yz})", "({zy}<(yx))>y<(x)")]:
            self.assertEqual((-term(text)).text(), mirror)
            self.assertEqual(term(text).mirror().text(), mirror)
            self.assertEqual((-term(mirror)).text(), text)

    def test_mirrors_of_rows_and_even_signs(self):
        row, even = sign_term("[x(y)>]"), sign_term("[{[(x)>],[xy],z}]")
        self.assertEqual((-row).text(), "[<(y)x]")
        self.assertEqual((-even).text(), "[{[<(x)],[yx],z}]")
        self.assertEqual((-(row + even.up() + X)).text(), "x<([{[<(x)],[yx],z}])[<(y)x]")
        self.assertEqual((-Term.shuffle(sign_term("[xy]"), sign_term("[yz]"))).text(), "{[yx],[zy]}")

    def test_mirrored_keys(self):
        dice = random.Random(172)
        for _ in range(150):
            one = random_term(dice, 3, "xy")
            self.assertEqual(key_of(-one), mirrored_sign(key_of(one)))


class FilledTest(LexiconCase):

    def test_fillings(self):
        one = term("x(yx)>{x,z}")
        self.assertEqual(one.filled().text(), "x(yx)>{x,z}")
        self.assertEqual(one.filled(x=term("yy")).text(), "yy(yyy)>{yy,z}")
        self.assertEqual(one.filled(x=term("z"), z=term("x")).text(), "z(yz)>{x,z}")
        self.assertEqual(one.filled(x=EMPTY).text(), "(y)>{z}")
        self.assertEqual(one.filled(x=EMPTY, z=EMPTY, y=term("{x}")).text(), "({x})>")
        self.assertEqual(one.filled(z=term("x")).text(), "x(yx)>{x}")
        self.assertEqual(term("<(x)").filled(x=term("<(x)")).text(), "<(<(x))")

    def test_signs_that_are_no_colors_stay(self):
        one = sign_term("[xy]") + X + sign_term("[{x}]").up()
        self.assertEqual(one.filled(x=Y).text(), "[xy]y([{x}])>")
        self.assertEqual(one.filled(x=sign_term("[xx]")).text(), "[xy][xx]([{x}])>")

    def test_keywords_that_are_no_colors(self):
        self.check_error(InvalidColor, {"color": "w"}, X.filled, x=Y, w=X, v=X)
        self.check_error(InvalidColor, {"color": "xy"}, X.filled, xy=X, w=X)
        self.check_error(InvalidColor, {"color": "X"}, EMPTY.filled, **{"X": X, "": X})

    def test_operands_of_other_books(self):
        self.assertEqual(key_of(TWO), key_of(term("(x)>{(x)>}")))
