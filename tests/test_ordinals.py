"""Ordinals: their form, sums, products, order and texts; compared with keys of lines that have these ordinals."""

import itertools
import random

from lexiconlines.errors import InvalidNumber
from lexiconlines.keys import key_of
from lexiconlines.ordinals import Ordinal
from lexiconlines.terms import Term
from tests.support import ANY_VALUES, LexiconCase, total

W = Ordinal((1, 1))
ZERO = Ordinal()
SOME = [
    ZERO, Ordinal((0, 1)), Ordinal((0, 2)), Ordinal((0, 5)), W, Ordinal((1, 1), (0, 1)), Ordinal((1, 1), (0, 3)), Ordinal((1, 2)),
    Ordinal((1, 3), (0, 2)), Ordinal((2, 1)), Ordinal((2, 1), (0, 1)), Ordinal((2, 1), (1, 1)), Ordinal((2, 1), (1, 2), (0, 4)),
    Ordinal((2, 3), (1, 1)), Ordinal((3, 1)), Ordinal((3, 2), (1, 1), (0, 1)),
]


def term_of_ordinal(ordinal):
    """A term of x alone whose line has an ordinal."""
    parts = []
    for exponent, count in ordinal.terms:
        power = Term.spot("x")
        for _ in range(exponent):
            power = power.up()
        parts.append(power * count)
    return total(*parts)


def random_ordinal(dice, most_exponent, most_count):
    exponents = sorted(dice.sample(range(most_exponent + 1), dice.randint(0, most_exponent)), reverse=True)
    return Ordinal(*[(exponent, dice.randint(1, most_count)) for exponent in exponents])


class FormTest(LexiconCase):

    def test_terms(self):
        self.assertEqual((ZERO.terms, W.terms, Ordinal((60, 1), (2, 7), (0, 10 ** 30)).terms),
                         ((), ((1, 1),), ((60, 1), (2, 7), (0, 10 ** 30))))

    def test_wrong_terms(self):
        for value in ANY_VALUES + [[1, 1], (1,), (1, 1, 1), (True, 1), (1, True), (False, 1), (-1, 1), (1, 0), (1, -1), (61, 1), ("1", 1),
                                   (1, None), ((1, 1),), (10 ** 30, 1)]:
            self.check_error(InvalidNumber, {"number": 0}, Ordinal, value)
            self.check_error(InvalidNumber, {"number": 1}, Ordinal, (60, 1), value)
            self.check_error(InvalidNumber, {"number": 2}, Ordinal, (60, 1), (59, 3), value, value)

    def test_exponents_that_do_not_descend(self):
        self.check_error(InvalidNumber, {"number": 1}, Ordinal, (1, 1), (1, 2))
        self.check_error(InvalidNumber, {"number": 1}, Ordinal, (1, 1), (2, 2), (1, 1))
        self.check_error(InvalidNumber, {"number": 2}, Ordinal, (3, 1), (2, 2), (2, 1))
        self.check_error(InvalidNumber, {"number": 2}, Ordinal, (3, 1), (0, 2), (1, 1), None)

    def test_of(self):
        self.assertEqual([Ordinal.of(number).terms for number in (0, 1, 7, 10 ** 30)], [(), ((0, 1),), ((0, 7),), ((0, 10 ** 30),)])
        self.assertEqual(Ordinal.of(number=3), Ordinal((0, 3)))
        self.assertEqual(W.of(2), Ordinal((0, 2)))
        for value in [-1, -10 ** 30, True, False] + [value for value in ANY_VALUES if value.__class__ is not int]:
            self.check_error(InvalidNumber, {"number": value}, Ordinal.of, value)

    def test_limits_and_truth(self):
        for one in SOME:
            self.assertIs(one.is_limit(), one != ZERO and one.terms[-1][0] > 0)
            self.assertIs(bool(one), one.terms != ())
        self.assertEqual([one.is_limit() for one in (ZERO, Ordinal.of(3), W, W + Ordinal.of(1), W * W)], [False, False, True, False, True])

    def test_texts(self):
        for text, terms in [
            ("0", ()), ("1", ((0, 1),)), ("3", ((0, 3),)), ("w", ((1, 1),)), ("w*3", ((1, 3),)), ("w^2", ((2, 1),)), ("w^2*3", ((2, 3),)),
            ("w^2*3+w+1", ((2, 3), (1, 1), (0, 1))), ("w^60+w^10*12+w*2+10", ((60, 1), (10, 12), (1, 2), (0, 10))),
        ]:
            one = Ordinal(*terms)
            self.assertEqual((one.text(), str(one), repr(one), f"{one}"), (text, text, f"Ordinal({text})", text))


class SumTest(LexiconCase):

    def test_examples(self):
        self.assertEqual((W + Ordinal((1, 2), (0, 5))).text(), "w*3+5")
        self.assertEqual((Ordinal((0, 2)) * W).text(), "w")
        self.assertEqual([(Ordinal.of(1) + W).text(), (W * Ordinal.of(2)).text(), (W + W).text(), (Ordinal.of(2) * W).text()],
                         ["w", "w*2", "w*2", "w"])

    def test_absorbed_parts(self):
        long = Ordinal((5, 2), (3, 4), (1, 6), (0, 7))
        self.assertEqual([(long + Ordinal((exponent, 1))).text() for exponent in (6, 5, 4, 3, 2, 1, 0)],
                         ["w^6", "w^5*3", "w^5*2+w^4", "w^5*2+w^3*5", "w^5*2+w^3*4+w^2", "w^5*2+w^3*4+w*7", "w^5*2+w^3*4+w*6+8"])
        self.assertEqual((Ordinal((1, 5)) + long).text(), long.text())
        self.assertEqual([long + ZERO, ZERO + long], [long, long])

    def test_sums_of_lines(self):
        for one, other in itertools.product(SOME, repeat=2):
            self.assertEqual(key_of(term_of_ordinal(one) + term_of_ordinal(other)), key_of(term_of_ordinal(one + other)))

    def test_bracketing(self):
        dice = random.Random(81)
        for _ in range(300):
            one, two, three = [random_ordinal(dice, 6, 4) for _ in range(3)]
            self.assertEqual((one + two) + three, one + (two + three))
            self.assertEqual((one * two) * three, one * (two * three))
            self.assertEqual(one * (two + three), one * two + one * three)

    def test_operands_stay(self):
        one, other = Ordinal((1, 2), (0, 3)), Ordinal((2, 1))
        one + other, one * other, one < other
        self.assertEqual((one.terms, other.terms), (((1, 2), (0, 3)), ((2, 1),)))


class ProductTest(LexiconCase):

    def test_by_nothing_and_by_one(self):
        for one in SOME:
            self.assertEqual([one * ZERO, ZERO * one, one * Ordinal.of(1), Ordinal.of(1) * one], [ZERO, ZERO, one, one])

    def test_by_finite_ones(self):
        for one in SOME:
            for number in (2, 3, 7):
                told = ZERO
                for _ in range(number):
                    told = told + one
                self.assertEqual(one * Ordinal.of(number), told)

    def test_by_limits(self):
        one = Ordinal((3, 2), (1, 4), (0, 5))
        self.assertEqual([(one * W).text(), (one * Ordinal((2, 3))).text(), (one * Ordinal((2, 3), (0, 2))).text()],
                         ["w^4", "w^5*3", "w^5*3+w^3*4+w*4+5"])

    def test_products_of_lines(self):
        for one, other in itertools.product(SOME, repeat=2):
            self.assertEqual(key_of(term_of_ordinal(other).filled(x=term_of_ordinal(one))), key_of(term_of_ordinal(one * other)))

    def test_great_exponents(self):
        high = Ordinal((60, 2), (0, 1))
        self.assertEqual((high * high).text(), "w^120*2+w^60*2+1")
        self.assertEqual((high * high * high + high * high).terms, ((180, 2), (120, 4), (60, 2), (0, 1)))
        self.assertEqual((high + high * high).text(), "w^120*2+w^60*2+1")
        self.assertTrue(high < high * high < high * high * W)
        self.check_error(InvalidNumber, {"number": 0}, Ordinal, *(high * high).terms)


class OrderTest(LexiconCase):

    def test_six_operators(self):
        for at, one in enumerate(SOME):
            for behind, other in enumerate(SOME):
                told = [at == behind, at != behind, at < behind, at <= behind, at > behind, at >= behind]
                found = [one == other, one != other, one < other, one <= other, one > other, one >= other]
                self.assertEqual(found, told, f"{one} {other}")
        self.assertEqual(sorted(SOME[::-1]), SOME)

    def test_sums_are_greater(self):
        dice = random.Random(82)
        for _ in range(300):
            one, more = random_ordinal(dice, 5, 3), random_ordinal(dice, 5, 3)
            self.assertIs(one + more > one, bool(more))
            self.assertTrue(one <= one + more and more <= one + more)
            self.assertEqual(one + more == one, not more)

    def test_equal_to_no_other_values(self):
        for value in [value for value in ANY_VALUES if value.__class__ is not Ordinal] + [0, "w", ((1, 1),), Term.read("(x)>")]:
            for one in (ZERO, W, Ordinal.of(1)):
                self.assertEqual([one == value, one != value, value == one, value != one], [False, True, False, True])

    def test_other_values_have_no_place(self):
        for value in (0, "w", None, ((1, 1),), Term.empty()):
            for work in (lambda it: W < it, lambda it: it >= W, lambda it: W + it, lambda it: W * it):
                with self.assertRaises(TypeError):
                    work(value)
