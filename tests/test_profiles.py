"""Profiles of finite lines by their definition, of endless ones word by word; formulas that hold and do not."""

import functools
import itertools
import random

from lexiconlines.errors import InvalidColor, InvalidFormula, TooDeep
from lexiconlines.formulas import depth_of, is_formula, read_formula
from lexiconlines.keys import key_of
from lexiconlines.languages import coded
from lexiconlines.least import least
from lexiconlines.listing import by_length
from lexiconlines.machines import book_of, filled, joined, mirrored, repeated, shuffled
from lexiconlines.profiles import (
    down_profile, holds, lowered, profile_of, satisfies, shuffle_profile, spot_profile, sum_profile, up_profile)
from lexiconlines.spans import above, below
from lexiconlines.terms import Term
from lexiconlines.triples import shown
from tests import formulas_oracle
from tests.support import (
    ANY_VALUES, EMPTY_WORD, NOTHING, ROW, STEP, TWO, LexiconCase, book, random_books, random_formula, random_term, retold)

X1 = (("x", (), ()),)
LAST = read_formula("some x [true | not some x [true | true]]")
WRONG_DEPTHS = [-1, 4, 7, 10 ** 30, True, False, None, "1", (1,), [1], "", TWO]


def term(text):
    return Term.read(text)


@functools.lru_cache(maxsize=None)
def row_profile(colors, depth):
    """The profile of a finite line, by the definition."""
    if depth == 0:
        return ()
    return tuple(sorted({(color, row_profile(colors[:at], depth - 1), row_profile(colors[at + 1:], depth - 1))
                         for at, color in enumerate(colors)}))


def row_holds(colors, formula):
    """Whether a finite line satisfies a formula, by the definition."""
    kind, *parts = formula
    if kind == "some":
        color, low, high = parts
        return any(mark == color and row_holds(colors[:at], low) and row_holds(colors[at + 1:], high)
                   for at, mark in enumerate(colors))
    if kind == "not":
        return not row_holds(colors, parts[0])
    if kind in ("and", "or"):
        return (all if kind == "and" else any)(row_holds(colors, part) for part in parts)
    return kind == "true"


def row_term(colors):
    """The term of a finite line."""
    return Term.read(colors) if colors else Term.empty()


def told_triple(one, word, depth):
    """The triple of a word by the definition, from the exact books below and above it."""
    return (one.color_of(word), profile_of(below(one, word), depth - 1), profile_of(above(one, word), depth - 1))


class ProfileTest(LexiconCase):

    def test_examples(self):
        self.assertEqual(profile_of(term("(x)>"), 2), (("x", (), X1), ("x", X1, X1)))
        self.assertEqual([profile_of(term(text), 1) for text in ("x", "(x)>", "{x}", "<(x)x")], [X1] * 4)
        self.assertEqual(profile_of(line=TWO, depth=1), X1)

    def test_depth_zero(self):
        for line in (NOTHING, EMPTY_WORD, TWO, STEP, Term.empty(), term("x{y}")):
            self.assertEqual(profile_of(line, 0), ())

    def test_lines_without_spots(self):
        for depth in range(4):
            self.assertEqual((profile_of(NOTHING, depth), profile_of(Term.empty(), depth), profile_of(book("- a0"), depth)), ((), (), ()))

    def test_single_spots(self):
        for color in "xyz":
            for depth in range(4):
                told = ((color, (), ()),) if depth else ()
                self.assertEqual([profile_of(Term.spot(color), depth), spot_profile(color, depth), profile_of(book(color), depth)],
                                 [told] * 3)
        self.assertEqual(spot_profile(color="y", depth=2), (("y", (), ()),))

    def test_finite_lines(self):
        for many in range(7):
            for colors in itertools.product("xy", repeat=many):
                for depth in range(4):
                    self.assertEqual(profile_of(row_term("".join(colors)), depth), row_profile("".join(colors), depth))
        dice = random.Random(111)
        for _ in range(60):
            colors = "".join(dice.choice("xyz") for _ in range(dice.randint(8, 30)))
            for depth in range(4):
                self.assertEqual(profile_of(row_term(colors), depth), row_profile(colors, depth))

    def test_copies(self):
        for depth in range(4):
            most = 2 ** depth - 1
            for colors in ("x", "xy", "xyy"):
                copies = [profile_of(row_term(colors) * many, depth) for many in range(most + 4)]
                self.assertEqual(copies[most:], [copies[most]] * 4)
            rows = [profile_of(row_term("x") * many, depth) for many in range(most + 1)]
            self.assertEqual(len(set(rows)), most + 1)

    def test_endless_lines_word_by_word(self):
        for one, _ in random_books(112, 80, most_nodes=4):
            for depth in range(1, 4):
                profile = profile_of(one, depth)
                self.assertEqual(profile, tuple(sorted(set(profile))))
                for triple in profile:
                    self.assertEqual(told_triple(one, shown(one, triple, depth), depth), triple)
                for word in by_length(one, 30):
                    self.assertIn(told_triple(one, word, depth), profile)

    def test_random_terms(self):
        dice = random.Random(113)
        for _ in range(150):
            one = random_term(dice, 4, dice.choice(["x", "xy", "xyz"]))
            other = retold(dice, one)
            for depth in range(4):
                told = formulas_oracle.profile(one, depth)
                self.assertEqual((profile_of(one, depth), profile_of(other, depth)), (told, told))

    def test_a_line_and_its_books(self):
        dice = random.Random(114)
        for _ in range(60):
            one = random_term(dice, 3, "xy")
            if len(one) <= 40:
                made = book_of(one)
                books = [made, least(made), coded(made, ["a", "ba", "bb", "c"]), book_of(one)]
                for depth in range(4):
                    self.assertEqual([profile_of(other, depth) for other in books], [profile_of(one, depth)] * 4)

    def test_long_terms(self):
        dice = random.Random(115)
        colors = "".join(dice.choice("xy") for _ in range(3000))
        self.assertEqual(profile_of(row_term(colors), 2), row_profile(colors[:400] + colors[-400:], 2))

    def test_unlike_lines_with_one_profile(self):
        one, other = term("(x)>"), term("(x)><(x)(x)>")
        self.assertNotEqual(key_of(one), key_of(other))
        for depth in range(4):
            self.assertEqual(profile_of(one, depth), profile_of(other, depth))


class OperationsTest(LexiconCase):

    def lines(self):
        dice = random.Random(116)
        texts = ["0", "x", "y", "xx", "(x)>", "<(x)", "{x}", "{x,y}", "x{x}", "(xy)>z", "<(x)(x)>", "{(x)>,<(y)}"]
        return [term(text) for text in texts] + [random_term(dice, 3, "xyz") for _ in range(12)]

    def test_sums(self):
        for one, other in itertools.product(self.lines(), repeat=2):
            for depth in range(4):
                self.assertEqual(sum_profile(profile_of(one, depth), profile_of(other, depth), depth), profile_of(one + other, depth))
        self.assertEqual(sum_profile(one=X1, other=X1, depth=2), (("x", (), X1), ("x", X1, ())))
        self.assertEqual(sum_profile(X1, X1, 2), row_profile("xx", 2))

    def test_up_and_down(self):
        for one in self.lines():
            for depth in range(4):
                profile = profile_of(one, depth)
                self.assertEqual(up_profile(profile, depth), profile_of(one.up(), depth))
                self.assertEqual(down_profile(profile, depth), profile_of(one.down(), depth))
        self.assertEqual((up_profile(one=X1, depth=2), down_profile(one=X1, depth=2)),
                         ((("x", (), X1), ("x", X1, X1)), (("x", X1, ()), ("x", X1, X1))))

    def test_shuffles(self):
        lines = self.lines()
        dice = random.Random(117)
        for _ in range(120):
            pieces = [dice.choice(lines) for _ in range(dice.randint(0, 4))]
            for depth in range(4):
                profiles = [profile_of(piece, depth) for piece in pieces]
                told = profile_of(Term.shuffle(*pieces), depth)
                for passed in (profiles, tuple(profiles), profiles + [()], [()] + profiles[::-1] + profiles):
                    self.assertEqual(shuffle_profile(passed, depth), told)
        for depth in range(4):
            self.assertEqual([shuffle_profile([], depth), shuffle_profile([(), ()], depth), shuffle_profile(pieces=(), depth=depth)], [()] * 3)
        self.assertEqual(shuffle_profile([X1], 2), (("x", X1, X1),))

    def test_books(self):
        books = [one for one, _ in random_books(118, 24, most_nodes=4)]
        for one, other in zip(books, books[1:]):
            for depth in range(4):
                first, second = profile_of(one, depth), profile_of(other, depth)
                self.assertEqual(profile_of(joined(one, other), depth), sum_profile(first, second, depth))
                self.assertEqual(profile_of(repeated(one), depth), up_profile(first, depth))
                self.assertEqual(profile_of(repeated(one, down=True), depth), down_profile(first, depth))
                self.assertEqual(profile_of(shuffled(one, other), depth), shuffle_profile([first, second], depth))
                self.assertEqual(profile_of(mirrored(mirrored(one)), depth), first)
                if first == second:
                    self.assertEqual(profile_of(filled(STEP, x=one), depth), profile_of(filled(STEP, x=other), depth))

    def test_passed_lists_stay(self):
        passed = [X1, (), (("y", (), ()),)]
        found = shuffle_profile(passed, 1)
        self.assertEqual(passed, [X1, (), (("y", (), ()),)])
        passed.append((("z", (), ()),))
        self.assertEqual(found, (("x", (), ()), ("y", (), ())))

    def test_lowered(self):
        for one in self.lines() + [TWO, ROW, STEP, NOTHING]:
            for depth in range(1, 4):
                self.assertEqual(lowered(profile_of(one, depth), depth), profile_of(one, depth - 1))
        self.assertEqual(lowered(one=(("x", (), X1), ("x", X1, X1)), depth=2), X1)

    def test_depths(self):
        for value in WRONG_DEPTHS:
            told = {"depth": value}
            self.check_error(TooDeep, told, profile_of, TWO, value)
            self.check_error(TooDeep, told, spot_profile, "x", value)
            self.check_error(TooDeep, told, sum_profile, (), (), value)
            self.check_error(TooDeep, told, up_profile, (), value)
            self.check_error(TooDeep, told, down_profile, (), value)
            self.check_error(TooDeep, told, shuffle_profile, [], value)
            self.check_error(TooDeep, told, satisfies, (), value, ("true",))
        for value in WRONG_DEPTHS + [0]:
            self.check_error(TooDeep, {"depth": value}, lowered, (), value)

    def test_colors(self):
        for value in ["", "w", "xy", "X", None, 1, True, ("x",), ["x"], TWO]:
            self.check_error(InvalidColor, {"color": value}, spot_profile, value, 2)
            self.check_error(InvalidColor, {"color": value}, spot_profile, value, 4)


class FormulaTest(LexiconCase):

    def test_examples(self):
        self.assertEqual([holds(term("<(x)"), LAST), holds(term("(x)>"), LAST)], [True, False])
        self.assertEqual([holds(mirrored(ROW), LAST), holds(line=ROW, formula=LAST), holds(TWO, LAST), holds(mirrored(STEP), LAST)],
                         [True, False, False, True])

    def test_each_kind(self):
        some_y = ("some", "y", ("true",), ("true",))
        for text, told in [
            ("true", True), ("false", False), ("not true", False), ("not false", True), ("(true and true)", True), ("(true and false)", False),
            ("(false or true)", True), ("(false or false)", False), ("(true and true and false)", False), ("(false or false or true)", True),
            ("some x [true | true]", True), ("some y [true | true]", False), ("some x [some x [true | true] | true]", True),
            ("some x [false | true]", False), ("some x [true | false]", False), ("not some y [true | true]", True),
            ("some x [not some x [true | true] | true]", True), ("some x [true | not some x [true | true]]", False),
            ("some x [not some x [true | true] | some x [not some x [true | true] | true]]", True),
        ]:
            formula = read_formula(text)
            self.assertIs(holds(term("(x)>"), formula), told, text)
            self.assertIs(holds(ROW, formula), told, text)
            depth = depth_of(formula)
            for further in range(depth, 4):
                self.assertIs(satisfies(profile_of(ROW, further), further, formula), told, text)
        self.assertIs(holds(NOTHING, ("not", some_y)), True)
        self.assertIs(satisfies(profile=(), depth=3, formula=some_y), False)

    def test_finite_lines(self):
        dice = random.Random(121)
        met = [0, 0]
        for _ in range(400):
            colors = "".join(dice.choice("xy") for _ in range(dice.randint(0, 7)))
            formula = random_formula(dice, 5, "xy")
            if depth_of(formula) <= 3:
                told = row_holds(colors, formula)
                self.assertIs(holds(row_term(colors), formula), told)
                met[told] += 1
        self.assertGreater(min(met), 50)

    def test_profiles_tell_all_formulas(self):
        """Lines with one profile satisfy the same formulas of this depth, also those that are written otherwise."""
        dice = random.Random(122)
        for _ in range(40):
            one = random_term(dice, 3, "xy")
            other = retold(dice, one)
            for _ in range(10):
                formula = random_formula(dice, 5, "xy")
                depth = depth_of(formula)
                if depth <= 3:
                    told = holds(one, formula)
                    self.assertIs(holds(other, formula), told)
                    self.assertIs(holds(one, ("not", formula)), not told)
                    self.assertIs(satisfies(profile_of(one, 3), 3, formula), told)

    def test_wide_formulas(self):
        wide = ("and", *[("or", ("false",), ("some", "x", ("true",), ("true",)))] * 400)
        self.assertIs(holds(ROW, wide), True)
        self.assertIs(holds(EMPTY_WORD, wide), False)

    def test_wrong_formulas(self):
        for value in ANY_VALUES + [["true"], ("and", ("true",)), ("some", "w", ("true",), ("true",)), "true"]:
            if not is_formula(value):
                self.check_error(InvalidFormula, {"place": -1}, holds, TWO, value)
        deep = ("true",)
        for _ in range(21):
            deep = ("not", deep)
        self.check_error(InvalidFormula, {"place": -1}, holds, TWO, deep)

    def test_deep_formulas(self):
        deep = ("true",)
        for depth in range(1, 7):
            deep = ("some", "x", ("true",), deep)
            if depth <= 3:
                self.assertIs(holds(TWO, deep), True)
            else:
                self.check_error(TooDeep, {"depth": depth}, holds, TWO, deep)
                self.check_error(TooDeep, {"depth": depth}, holds, Term.empty(), ("not", ("and", ("false",), deep)))
