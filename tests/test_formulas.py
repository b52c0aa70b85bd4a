"""Formulas: their form, their depth, their texts, and the places at which texts go wrong."""

import random

from lexiconlines.errors import InvalidFormula
from lexiconlines.formulas import depth_of, formula_text, is_formula, read_formula
from tests.support import ANY_VALUES, LexiconCase, random_formula

TRUE, FALSE = ("true",), ("false",)
LAST = ("some", "x", TRUE, ("not", ("some", "x", TRUE, TRUE)))
TEXTS = [
    ("true", TRUE, 0), ("false", FALSE, 0), ("not true", ("not", TRUE), 0), ("not not false", ("not", ("not", FALSE)), 0),
    ("(true and false)", ("and", TRUE, FALSE), 0), ("(true or false or true)", ("or", TRUE, FALSE, TRUE), 0),
    ("some y [true | false]", ("some", "y", TRUE, FALSE), 1), ("some x [true | not some x [true | true]]", LAST, 2),
    ("some z [(true and some x [true | true]) | false]", ("some", "z", ("and", TRUE, ("some", "x", TRUE, TRUE)), FALSE), 2),
    ("(not true or (false and true))", ("or", ("not", TRUE), ("and", FALSE, TRUE)), 0),
    ("(some x [true | true] or some y [some x [true | true] | true] or true)",
     ("or", ("some", "x", TRUE, TRUE), ("some", "y", ("some", "x", TRUE, TRUE), TRUE), TRUE), 2),
    ("not some x [some y [some z [some x [true | true] | true] | true] | true]",
     ("not", ("some", "x", ("some", "y", ("some", "z", ("some", "x", TRUE, TRUE), TRUE), TRUE), TRUE)), 4),
]


def nested(many, wrap):
    formula = TRUE
    for _ in range(many):
        formula = wrap(formula)
    return formula


WRAPS = [lambda one: ("not", one), lambda one: ("and", one, TRUE), lambda one: ("and", FALSE, TRUE, one), lambda one: ("or", TRUE, one),
         lambda one: ("some", "x", one, TRUE), lambda one: ("some", "y", FALSE, one)]


def written(symbols):
    """The ways in which some symbols begin: pairs of a character and the symbols behind it."""
    if not symbols:
        return
    head, *rest = symbols
    if isinstance(head, str):
        yield (head[0], [head[1:]] * (len(head) > 1) + rest)
        return
    kind, room = head
    part = ("formula", room)
    ways = {"formula": [["true"], ["false"]], "and": [[")"], [" and ", part, head]], "or": [[")"], [" or ", part, head]],
            "behind": [[" and ", part, ("and", room)], [" or ", part, ("or", room)]]}[kind]
    if kind == "formula" and room > 0:
        inner = ("formula", room - 1)
        ways = ways + [["not ", inner], ["(", inner, ("behind", room - 1)]]
        ways += [[f"some {color} [", inner, " | ", inner, "]"] for color in "xyz"]
    for way in ways:
        yield from written(way + rest)


def told_place(text):
    """The place of a wrong text, found by keeping all ways in which a right one can go on; None if it is right."""
    ways = [[("formula", 20)]]
    for at, mark in enumerate(text):
        ways = [rest for way in ways for found, rest in written(way) if found == mark]
        if not ways:
            return at
    return None if [] in ways else len(text)


class IsFormulaTest(LexiconCase):

    def test_formulas(self):
        for _, formula, depth in TEXTS:
            self.assertIs(is_formula(formula), True)
            self.assertEqual(depth_of(formula), depth)
        self.assertIs(is_formula(value=LAST), True)
        self.assertEqual(depth_of(formula=LAST), 2)

    def test_nesting(self):
        for wrap in WRAPS:
            for many in (1, 19, 20):
                self.assertIs(is_formula(nested(many, wrap)), True)
            for many in (21, 22, 40):
                self.assertIs(is_formula(nested(many, wrap)), False)
        self.assertEqual([depth_of(nested(20, wrap)) for wrap in WRAPS], [0, 0, 0, 0, 20, 20])

    def test_parts_too_few_or_too_many(self):
        for value in [
            (), ("true", TRUE), ("false", FALSE), ("true", ()), ("not",), ("not", TRUE, TRUE), ("and",), ("and", TRUE), ("or",), ("or", FALSE),
            ("some",), ("some", "x"), ("some", "x", TRUE), ("some", "x", TRUE, TRUE, TRUE), ("some", TRUE, TRUE), ("x", TRUE, TRUE),
        ]:
            self.assertIs(is_formula(value), False, value)

    def test_parts_of_other_kinds(self):
        for value in [
            ["true"], ["not", TRUE], ("not", ["true"]), ("and", TRUE, ["true"]), ("and", [TRUE, TRUE]), ["and", TRUE, TRUE], ("or", (TRUE, TRUE)),
            ("some", "w", TRUE, TRUE), ("some", "", TRUE, TRUE), ("some", "xy", TRUE, TRUE), ("some", None, TRUE, TRUE), ("some", ["x"], TRUE, TRUE),
            ("some", "x", True, TRUE), ("some", "x", TRUE, None), ("some", "x", ["true"], TRUE), (True,), (("true",),), (None, TRUE), ("True",),
            ("not", "true"), ("not", ("nor", TRUE)), ("all", "x", TRUE, TRUE), ("and", TRUE, TRUE, 1), (1, TRUE, TRUE), (["and"], TRUE, TRUE),
        ]:
            self.assertIs(is_formula(value), False, value)
            self.assertIs(is_formula(("not", value)), False, value)

    def test_values_of_all_kinds(self):
        for value in ANY_VALUES:
            self.assertIs(is_formula(value), value == ("not", ("true",)), value)


class TextTest(LexiconCase):

    def test_texts(self):
        for text, formula, _ in TEXTS:
            self.assertEqual((formula_text(formula), read_formula(text)), (text, formula))
        self.assertEqual((formula_text(formula=LAST), read_formula(text=TEXTS[7][0])), (TEXTS[7][0], LAST))

    def test_random_formulas(self):
        dice = random.Random(101)
        for _ in range(300):
            formula = random_formula(dice, dice.randint(0, 6), dice.choice(["x", "xyz"]))
            self.assertIs(is_formula(formula), True)
            self.assertEqual(read_formula(formula_text(formula)), formula)
            self.assertEqual(depth_of(formula), deepest(formula))

    def test_nesting(self):
        for wrap in WRAPS:
            text = formula_text(nested(20, wrap))
            self.assertEqual(read_formula(text), nested(20, wrap))
            text = formula_text(nested(21, wrap))
            self.check_error(InvalidFormula, {"place": told_place(text)}, read_formula, text)
        self.check_error(InvalidFormula, {"place": 80}, read_formula, "not " * 21 + "true")
        self.check_error(InvalidFormula, {"place": 20}, read_formula, "(" * 21)
        self.check_error(InvalidFormula, {"place": 20}, read_formula, "(" * 20)
        self.check_error(InvalidFormula, {"place": 8 * 20}, read_formula, "some x [" * 21 + "true")


class WrongTextTest(LexiconCase):

    def test_places(self):
        for text, place in [
            ("", 0), (" ", 0), ("true ", 4), ("truefalse", 4), ("tru", 3), ("trUe", 2), ("True", 0), ("not", 3), ("not ", 4), ("not  true", 4),
            ("nottrue", 3), ("(true)", 5), ("(true and)", 9), ("(true and false", 15), ("(true and false or true)", 16),
            ("(true or false and true)", 15), ("(true  and false)", 6), ("(true nor false)", 6), ("( true and false)", 1), ("true and false", 4),
            ("some", 4), ("some w [true | true]", 5), ("some x[true | true]", 6), ("some x [true| true]", 12), ("some x [true |true]", 14),
            ("some x [true | true", 19), ("some x [true | true]]", 20), ("some x [true]", 12), ("some x [ | true]", 8), ("some [true | true]", 5),
            ("(true and false)\n", 16), ("0", 0), ("tttt", 1), ("(true and false) ", 16), ("some xy [true | true]", 6),
        ]:
            self.assertEqual(told_place(text), place, text)
            self.check_error(InvalidFormula, {"place": place}, read_formula, text)

    def test_values_that_are_no_strings(self):
        for value in ANY_VALUES + [TRUE, ["true"], b"true"]:
            if not isinstance(value, str):
                self.check_error(InvalidFormula, {"place": 0}, read_formula, value)

    def test_beginnings(self):
        for text, _, _ in TEXTS:
            for many in range(len(text)):
                if text[:many] not in ("true", "false"):
                    self.check_error(InvalidFormula, {"place": many}, read_formula, text[:many])

    def test_bent_texts(self):
        dice = random.Random(102)
        texts = [text for text, _, _ in TEXTS] + [formula_text(random_formula(dice, 4, "xyz")) for _ in range(60)]
        texts += [formula_text(nested(many, wrap)) for many in (19, 20) for wrap in WRAPS]
        wrong = 0
        for text in texts:
            for _ in range(12):
                at = dice.randrange(len(text))
                mark = dice.choice("()[]| txyzwnotandsefalr")
                bent = dice.choice([text[:at] + text[at + 1:], text[:at] + mark + text[at:], text[:at] + mark + text[at + 1:],
                                    text[:at] + text[at] + text[at:], text + mark, text[:at]])
                place = told_place(bent)
                if place is None:
                    self.assertEqual(formula_text(read_formula(bent)), bent)
                else:
                    wrong += 1
                    self.check_error(InvalidFormula, {"place": place}, read_formula, bent)
        self.assertGreater(wrong, 600)


def deepest(formula):
    """The depth, as the greatest number of some that stand in one another."""
    inner = max([deepest(part) for part in formula if isinstance(part, tuple)], default=0)
    return inner + (formula[0] == "some")
