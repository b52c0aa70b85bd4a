"""The least depths at which lines are told apart, and formulas that tell them apart."""

import random

from lexiconlines.errors import TooDeep
from lexiconlines.formulas import depth_of, formula_text, is_formula, read_formula
from lexiconlines.keys import same_line
from lexiconlines.languages import coded
from lexiconlines.machines import book_of, mirrored
from lexiconlines.profiles import holds, profile_of
from lexiconlines.telling import least_depth, telling_formula
from lexiconlines.terms import Term
from tests.support import EMPTY_WORD, ENDING, NOTHING, ROW, STEP, TWO, LexiconCase, book, random_books, random_term, retold

WRONG_DEPTHS = [-1, 4, 10 ** 30, True, False, None, "3", (2,), [1], TWO]
# Pairs of terms and the least depth at which they are told apart.
PAIRS = [
    ("x", "y", 1), ("0", "x", 1), ("xy", "x", 1), ("{x}", "(xy)>", 1), ("x", "xx", 2), ("xy", "yx", 2), ("(x)>", "<(x)", 2),
    ("(x)>", "x", 2), ("(x)>", "{x}", 2), ("xx", "xxx", 2), ("xxx", "xxxx", 3), ("(x)><(x)", "{x}", 2), ("x{x}x", "(x)><(x)", 3),
    ("{x}", "{xx}", 3), ("x" * 6, "x" * 7, 3), ("x" * 7, "x" * 8, None), ("(x)>", "(x)><(x)(x)>", None), ("(x)>x", "(x)>(x)>x", 3),
    ("xyx", "xyyx", 2), ("xx" + "y" + "xxx", "xxxyxx", 3), ("0", "0", None),
]


class TellingTest(LexiconCase):

    def check_pair(self, one, other):
        """The least depth at which two lines are told apart, with a formula for each side checked."""
        depth = least_depth(one, other)
        told = [at for at in range(4) if profile_of(one, at) != profile_of(other, at)]
        self.assertEqual(depth, told[0] if told else None)
        for limit in range(4):
            within = depth is not None and depth <= limit
            self.assertEqual(least_depth(one, other, depth=limit), depth if within else None)
            for first, second in ((one, other), (other, one)):
                formula = telling_formula(first, second, depth=limit)
                self.assertIs(formula is None, not within)
                if within:
                    self.assertIs(is_formula(formula), True)
                    self.assertEqual(depth_of(formula), depth)
                    self.assertEqual((holds(first, formula), holds(second, formula)), (True, False))
                    self.assertEqual(read_formula(formula_text(formula)), formula)
        return depth

    def test_pairs(self):
        for one, other, depth in PAIRS:
            self.assertEqual(self.check_pair(Term.read(one), Term.read(other)), depth, (one, other))
            self.assertEqual(self.check_pair(book_of(Term.read(one)), Term.read(other)), depth)

    def test_books(self):
        for one, other, depth in [(TWO, ROW, 3), (ENDING, ROW, 1), (mirrored(ROW), ROW, 2), (TWO, STEP, None), (ROW, STEP, 3), (NOTHING, EMPTY_WORD, 1), (ENDING, EMPTY_WORD, 1), (TWO, TWO, None),
                                  (TWO, book("x a0 b0 c0"), None)]:
            self.assertEqual(self.check_pair(one, other), depth)
        self.assertEqual(least_depth(one=TWO, other=ROW, depth=3), least_depth(ROW, TWO))
        self.assertEqual(telling_formula(one=TWO, other=ROW, depth=3), telling_formula(TWO, ROW))

    def test_lines_that_only_keys_tell_apart(self):
        one, other = Term.read("(x)>"), Term.read("(x)><(x)(x)>")
        self.assertFalse(same_line(one, other))
        self.assertEqual((least_depth(one, other), telling_formula(one, other)), (None, None))

    def test_random_terms(self):
        dice = random.Random(141)
        met = {}
        for _ in range(220):
            colors = dice.choice(["x", "xy", "xyz"])
            one = random_term(dice, dice.choice([2, 3, 4]), colors)
            other = dice.choice([random_term(dice, 3, colors), retold(dice, one), one + random_term(dice, 1, colors)])
            depth = self.check_pair(one, other)
            met[depth] = met.get(depth, 0) + 1
        self.assertEqual(sorted(met, key=str), [1, 2, 3, None])
        self.assertGreaterEqual(min(met.values()), 5)

    def test_random_books(self):
        books = [one for one, _ in random_books(142, 40, most_nodes=4)]
        for one, other in zip(books, books[1:]):
            self.check_pair(one, other)
            self.check_pair(coded(one, ["a", "ba", "bb", "c"]), one)

    def test_long_formulas(self):
        dice = random.Random(143)
        for _ in range(10):
            colors = [dice.choice("xyz") for _ in range(60)]
            one, other = [Term.read("".join(row)) for row in (colors, dice.sample(colors, 60))]
            self.check_pair(one, other)

    def test_depths(self):
        for value in WRONG_DEPTHS:
            self.check_error(TooDeep, {"depth": value}, least_depth, TWO, ROW, depth=value)
            self.check_error(TooDeep, {"depth": value}, telling_formula, TWO, ROW, depth=value)
