"""The profiles of all lines with some colors, lists that are shut, and lines that satisfy formulas."""

import itertools
import random

from lexiconlines.alllines import all_profiles, follows, is_shut, model, term_with
from lexiconlines.errors import InvalidFormula, InvalidNumber, TooDeep
from lexiconlines.formulas import depth_of, is_formula, read_formula
from lexiconlines.profiles import (
    down_profile, holds, profile_of, satisfies, shuffle_profile, spot_profile, sum_profile, up_profile)
from lexiconlines.terms import Term
from tests.support import ANY_VALUES, TWO, LexiconCase, random_formula, random_term

SIZES = {(1, 0): 1, (2, 0): 1, (3, 0): 1, (1, 1): 2, (2, 1): 4, (3, 1): 8, (1, 2): 7, (2, 2): 470, (1, 3): 281}
BEYOND = [(1, 4), (2, 3), (3, 2), (3, 3), (2, 4)]
WRONG_COLORS = [0, 4, -1, True, False, None, "1", "x", (1,), [1], TWO]
WRONG_DEPTHS = [-1, True, False, None, "1", (1,), [1], 10 ** 30, TWO]
HAS_X = read_formula("some x [true | true]")
HAS_Y = read_formula("some y [true | true]")
NO_LAST = read_formula("not some x [true | not some x [true | true]]")
NO_FIRST = read_formula("not some x [not some x [true | true] | true]")


class AllProfilesTest(LexiconCase):

    def test_numbers(self):
        for (colors, depth), many in SIZES.items():
            found = all_profiles(colors, depth)
            self.assertIs(found.__class__, list)
            self.assertEqual((len(found), found), (many, sorted(set(found))))
        self.assertEqual(all_profiles(colors=1, depth=1), [(), (("x", (), ()),)])

    def test_all_lines_are_there(self):
        dice = random.Random(161)
        for colors, depth in SIZES:
            found = all_profiles(colors, depth)
            for _ in range(80):
                self.assertIn(profile_of(random_term(dice, 5, "xyz"[:colors]), depth), found)

    def test_they_are_closed(self):
        dice = random.Random(162)
        for colors, depth in SIZES:
            found = all_profiles(colors, depth)
            self.assertIn((), found)
            for color in "xyz"[:colors]:
                self.assertIn(spot_profile(color, depth), found)
            for one in found:
                self.assertIn(up_profile(one, depth), found)
                self.assertIn(down_profile(one, depth), found)
            pairs = list(itertools.product(found, repeat=2))
            for one, other in dice.sample(pairs, min(len(pairs), 1500)):
                self.assertIn(sum_profile(one, other, depth), found)
            for _ in range(300):
                self.assertIn(shuffle_profile([dice.choice(found) for _ in range(dice.randint(1, 5))], depth), found)

    def test_terms(self):
        for colors, depth in SIZES:
            for profile in all_profiles(colors, depth)[::19]:
                term = term_with(profile, colors, depth)
                self.assertIs(term.__class__, Term)
                self.assertEqual(profile_of(term, depth), profile)
                self.assertLessEqual(set(term.signs()), set("xyz"[:colors]))
        self.assertEqual(term_with(profile=(), colors=2, depth=2), Term.empty())

    def test_values_that_are_no_profile(self):
        x1 = (("x", (), ()),)
        for value in ANY_VALUES + [[], list(x1), (("y", (), ()),), (["x", (), ()],), (("x", (), []),), (("x", ()),), x1 + x1, (("x", x1, ()),), x1[0]]:
            if value not in ((), x1):
                self.assertIsNone(term_with(value, 1, 1), value)
        self.assertEqual([term_with(value, 1, 0) for value in ((), x1)], [Term.empty(), None])
        # The profile of a line of another color, and one that no line has.
        self.assertIsNone(term_with(spot_profile("y", 2), 1, 2))
        self.assertIsNone(term_with((("x", (), x1),), 1, 2))

    def test_colors_and_depths(self):
        for value in WRONG_COLORS:
            for depth in (1, 9, True, None):
                self.check_error(InvalidNumber, {"number": value}, all_profiles, value, depth)
                self.check_error(InvalidNumber, {"number": value}, term_with, (), value, depth)
                self.check_error(InvalidNumber, {"number": value}, is_shut, [], value, depth)
        for colors, depth in BEYOND + [(colors, depth) for colors in (1, 2, 3) for depth in WRONG_DEPTHS]:
            self.check_error(TooDeep, {"depth": depth}, all_profiles, colors, depth)
            self.check_error(TooDeep, {"depth": depth}, term_with, None, colors, depth)
            self.check_error(TooDeep, {"depth": depth}, is_shut, [()], colors, depth)


class ShutTest(LexiconCase):

    def test_lists(self):
        dice = random.Random(163)
        for colors, depth in SIZES:
            found = all_profiles(colors, depth)
            self.assertIs(is_shut(profiles=found, colors=colors, depth=depth), True)
            mixed = found + [dice.choice(found) for _ in range(5)]
            dice.shuffle(mixed)
            before = list(mixed)
            self.assertEqual((is_shut(mixed, colors, depth), is_shut(tuple(mixed), colors, depth), mixed), (True, True, before))
            for at in sorted({0, len(found) - 1, *[dice.randrange(len(found)) for _ in range(6)]}):
                self.assertIs(is_shut(found[:at] + found[at + 1:], colors, depth), False)
            self.assertIs(is_shut([], colors, depth), False)

    def test_closed_in_part(self):
        # Closed, but without the single spot; and with all spots, but without their sums.
        self.assertIs(is_shut([()], 1, 1), False)
        self.assertIs(is_shut([(), spot_profile("x", 2)], 1, 2), False)
        self.assertIs(is_shut([profile for profile in all_profiles(2, 1) if len(profile) != 2], 2, 1), False)


class ModelTest(LexiconCase):

    def check_model(self, formulas, colors):
        term = model(formulas, colors=colors)
        depth = max([depth_of(one) for one in formulas], default=0)
        told = any(all(satisfies(profile, depth, one) for one in formulas) for profile in all_profiles(colors, depth))
        self.assertIs(term is not None, told)
        if told:
            self.assertLessEqual(set(term.signs()), set("xyz"[:colors]))
            self.assertTrue(all(holds(term, one) for one in formulas))
        return term

    def test_models(self):
        self.assertIsNotNone(self.check_model([HAS_X, NO_LAST, NO_FIRST], 1))
        self.assertIsNone(self.check_model([HAS_Y], 1))
        self.assertIsNotNone(self.check_model([HAS_Y], 2))
        self.assertIsNone(self.check_model([HAS_X, ("not", HAS_X)], 2))
        self.assertIsNone(self.check_model([("false",)], 3))
        self.assertIsNotNone(self.check_model([], 3))
        dense = read_formula("(some x [true | true] and not some x [true | some x [not some x [true | true] | true]])")
        self.assertIsNotNone(self.check_model([dense], 1))
        self.assertIsNotNone(self.check_model([dense, read_formula("some x [true | not some x [true | true]]")], 1))
        self.assertIsNone(self.check_model([dense, NO_LAST, ("not", NO_LAST)], 1))
        self.assertIsNone(model(formulas=[HAS_Y, HAS_X]))

    def test_random_formulas(self):
        dice = random.Random(164)
        met = [0, 0]
        for _ in range(160):
            colors, most = dice.choice([(1, 3), (2, 2), (3, 1)])
            formulas = [random_formula(dice, dice.randint(2, 5), "xyz"[:colors]) for _ in range(dice.randint(1, 3))]
            if max(depth_of(one) for one in formulas) <= most:
                met[self.check_model(formulas, colors) is not None] += 1
        self.assertGreater(min(met), 15)

    def test_follows(self):
        self.assertIsNone(follows([HAS_X], HAS_X))
        self.assertIsNone(follows([HAS_Y], HAS_X))
        self.assertIsNone(follows([("false",)], HAS_Y, colors=2))
        found = follows([HAS_X], NO_LAST)
        self.assertEqual((holds(found, HAS_X), holds(found, NO_LAST)), (True, False))
        found = follows(formulas=[HAS_Y], formula=HAS_X, colors=2)
        self.assertEqual((holds(found, HAS_Y), holds(found, HAS_X)), (True, False))
        self.assertEqual(follows([], HAS_X, colors=3), Term.empty())
        self.assertIsNone(follows([], ("true",), colors=3))

    def test_follows_is_model_without_it(self):
        dice = random.Random(165)
        for _ in range(60):
            formulas = [random_formula(dice, 3, "xy") for _ in range(2)]
            if max(depth_of(one) for one in formulas) <= 2:
                found = follows(formulas[:1], formulas[1], colors=2)
                self.assertIs(found is None, model([formulas[0], ("not", formulas[1])], colors=2) is None)
                if found is not None:
                    self.assertEqual((holds(found, formulas[0]), holds(found, formulas[1])), (True, False))

    def test_formulas_at_the_greatest_nesting(self):
        deep = HAS_X
        while is_formula(("not", deep)):
            deep = ("not", deep)
        self.assertEqual(holds(model([deep]), deep), True)
        self.assertEqual(holds(follows([], deep), deep), False)

    def test_passed_lists_stay(self):
        formulas = [HAS_X, NO_LAST]
        model(formulas)
        follows(formulas, HAS_Y)
        self.assertEqual(formulas, [HAS_X, NO_LAST])
        self.assertEqual(model(tuple(formulas)), model(formulas))

    def test_errors_in_order(self):
        deep = ("some", "x", ("some", "x", NO_LAST, ("true",)), ("true",))
        self.assertEqual(depth_of(deep), 4)
        for value in WRONG_COLORS:
            self.check_error(InvalidNumber, {"number": value}, model, [None, deep], colors=value)
            self.check_error(InvalidNumber, {"number": value}, follows, [None], deep, colors=value)
        for value in ANY_VALUES + [["true"], ("and", HAS_X)]:
            if not is_formula(value):
                for at in (0, 1, 2):
                    formulas = [deep, HAS_X, HAS_Y][:at] + [value, None]
                    self.check_error(InvalidFormula, {"place": at}, model, formulas)
                    self.check_error(InvalidFormula, {"place": at}, follows, formulas, None, colors=2)
                self.check_error(InvalidFormula, {"place": 2}, follows, [deep, HAS_X], value)
                self.check_error(InvalidFormula, {"place": 0}, follows, [], value)
        for colors, most in ((1, 3), (2, 2), (3, 1)):
            for formula in (HAS_X, NO_LAST, ("some", "x", NO_LAST, ("true",)), deep):
                depth = depth_of(formula)
                if depth > most:
                    self.check_error(TooDeep, {"depth": depth}, model, [HAS_X, formula, HAS_X], colors=colors)
                    self.check_error(TooDeep, {"depth": depth}, follows, [HAS_X], formula, colors=colors)
                    self.check_error(TooDeep, {"depth": depth}, follows, [formula], HAS_X, colors=colors)
