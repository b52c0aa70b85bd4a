"""Far words: their form, length, letters, order and colors."""

import random

from lexiconlines.errors import InvalidFar, TooMany
from lexiconlines.far import compare, far_color, far_length, far_letter, is_far, plain
from tests.support import ANY_VALUES, EMPTY_WORD, NOTHING, ROW, STEP, TWO, LexiconCase, book, random_books, ring, strings

MOST = 10 ** 30
GOOD = [
    (), (("a", 1),), (("abcd", MOST),), (("b", 2), ("a", 1)), (("a", 1), ("a", 1)), (("d" * 41, 1),), (("a" * 4000, 3),),
    (("a", 1), ("b", 2), ("c", 3), ("d", 4), ("ab", 5), ("ba", 6)), (("a", 1),) * 600,
]
WRONG = [
    [], [("a", 1)], (["a", 1],), (("a", 1), ["b", 1]), (("a",),), (("a", 1, 1),), ((),), ("a", 1), ("a",), (("", 1),),
    (("a", 0),), (("a", -1),), (("a", MOST + 1),), (("a", True),), (("a", False),), (("a", None),), (("a", "1"),),
    (("a", (1,)),), ((1, "a"),), ((None, 1),), (("e", 1),), (("ab ", 1),), (("A", 1),), ((("a",), 1),), ((["a"], 1),),
    (("a", 1), None), (("a", 1), ("b", 0)), (("a", 1), ("", 2), ("b", 3)), None, True, False, 0, 5, "", "a", TWO,
    ((("a", 1), 1),), ((("a", 1),),),
]


def drawn(dice, letters="ab", most=5):
    """A far word that is short enough to be written out."""
    pairs = []
    for _ in range(dice.randrange(6)):
        pairs.append(("".join(dice.choice(letters) for _ in range(dice.randint(1, 3))), dice.randint(1, most)))
    return tuple(pairs)


def told_otherwise(dice, word):
    """A string as some far word."""
    pairs = []
    at = 0
    while at < len(word):
        piece = word[at:at + dice.randint(1, 4)]
        power = 1
        while dice.random() < 0.8 and word.startswith(piece, at + power * len(piece)):
            power += 1
        pairs.append((piece, power))
        at += power * len(piece)
    return tuple(pairs)


def written(far):
    return "".join(word * power for word, power in far)


class FormTest(LexiconCase):

    def test_is_far(self):
        for value in GOOD:
            self.assertIs(is_far(value), True, value)
        for value in WRONG:
            self.assertIs(is_far(value), False, value)
        self.assertIs(is_far(value=()), True)
        self.assertEqual([value for value in ANY_VALUES if is_far(value)], [(), (("a", 1),)])

    def test_errors(self):
        for value in WRONG:
            self.check_error(InvalidFar, {}, far_length, value)
            self.check_error(InvalidFar, {}, far_letter, value, 0)
            self.check_error(InvalidFar, {}, compare, value, ())
            self.check_error(InvalidFar, {}, compare, (("a", 1),), value)
            self.check_error(InvalidFar, {}, plain, value)
            self.check_error(InvalidFar, {}, far_color, TWO, value)
            self.check_error(InvalidFar, {}, far_color, NOTHING, value)


class LettersTest(LexiconCase):

    def test_far_length(self):
        self.assertEqual(far_length(()), 0)
        self.assertEqual(far_length((("ab", 3), ("c", 4))), 10)
        self.assertEqual(far_length(far=(("abc", MOST),) * 6), 18 * MOST)
        self.assertEqual(far_length((("a" * 40, MOST), ("b", 1))), 40 * MOST + 1)

    def test_far_letter(self):
        far = (("ab", MOST), ("c", 2), ("d", 1))
        places = {0: "a", 1: "b", 2: "a", 10 ** 29: "a", 10 ** 29 + 1: "b", 2 * MOST - 1: "b", 2 * MOST: "c",
                  2 * MOST + 1: "c", 2 * MOST + 2: "d", 2 * MOST + 3: "", 2 * MOST + 4: "", 9 * MOST: ""}
        for at, letter in places.items():
            self.assertEqual(far_letter(far, at), letter, at)
        self.assertEqual(far_letter((), 0), "")
        self.assertEqual(far_letter(far=(("a", 1),), at=1), "")

    def test_plain(self):
        self.assertEqual(plain(()), "")
        self.assertEqual(plain(far=(("ab", 2), ("c", 3))), "ababccc")
        self.assertEqual(plain((("ab", 1999), ("c", 1))), "ab" * 1999 + "c")
        self.assertEqual(plain((("abcd", 1000),)), "abcd" * 1000)
        self.check_error(TooMany, {"count": 4001}, plain, (("a", 4001),))
        self.check_error(TooMany, {"count": 4001}, plain, (("abcd", 1000), ("a", 1)))
        self.check_error(TooMany, {"count": 4002}, plain, (("ab", 2001),))
        self.check_error(TooMany, {"count": 6 * MOST}, plain, (("abcdab", MOST),))

    def test_random_far_words(self):
        dice = random.Random(71)
        for _ in range(200):
            far = drawn(dice, "abcd")
            word = written(far)
            self.assertEqual(far_length(far), len(word))
            self.assertEqual(plain(far), word)
            self.assertEqual([far_letter(far, at) for at in range(len(word) + 2)], list(word) + ["", ""])


class CompareTest(LexiconCase):

    def check_order(self, one, other, order):
        self.assertEqual(compare(one, other), order)
        self.assertEqual(compare(one=other, other=one), -order)

    def test_one_string_told_in_several_ways(self):
        for one, other in [
            ((("a", 4),), (("aa", 2),)), ((("ab", 3),), (("a", 1), ("ba", 2), ("b", 1))), ((), ()),
            ((("ab", MOST),), (("abab", MOST // 2),)), ((("aaa", MOST // 10),), (("a", MOST // 10),) * 3),
            ((("a", MOST), ("a", 1)), (("a", 1), ("a", MOST))),
            ((("ab", MOST), ("a", 1)), (("a", 1), ("ba", MOST))),
            ((("aab", 1),), (("a", 1), ("a", 1), ("b", 1))),
        ]:
            self.check_order(one, other, 0)

    def test_a_word_that_begins_with_the_other_one(self):
        self.check_order((), (("a", 1),), -1)
        self.check_order((("a", MOST),), (("a", MOST), ("a", 1)), -1)
        self.check_order((("ab", MOST),), (("ab", MOST - 1),), 1)
        self.check_order((("ab", MOST - 1), ("a", 1)), (("ab", MOST),), -1)

    def test_the_first_letter_that_differs(self):
        self.check_order((("a", 1),), (("b", 1),), -1)
        self.check_order((("a", MOST), ("b", 1)), (("a", MOST), ("c", 1)), -1)
        self.check_order((("a", MOST), ("b", 1)), (("a", MOST - 1), ("b", 1)), -1)
        self.check_order((("ab", MOST), ("b", 1)), (("ab", MOST), ("ab", MOST)), 1)
        self.check_order((("b", 1),), (("a", MOST),), 1)
        self.check_order((("aab", 5),), (("aabaa", 3),), 1)
        # The two repeat alike for 6 letters, and part at the last place at which they can.
        self.check_order((("abaab", MOST),), (("aba", MOST),), 1)

    def test_random_far_words(self):
        dice = random.Random(72)
        for _ in range(400):
            one, other = drawn(dice), drawn(dice)
            left, right = written(one), written(other)
            self.assertEqual(compare(one, other), (left > right) - (left < right))
            self.check_order(told_otherwise(dice, left), one, 0)
            self.check_order(told_otherwise(dice, left + "a"), one, 1)

    def test_repeated_strings(self):
        words = [word for word in strings("ab", 5) if word]
        for one in words:
            for other in words:
                left, right = one * 12, other * 12
                self.assertEqual(compare(((one, 12),), ((other, 12),)), (left > right) - (left < right))


class ColorTest(LexiconCase):

    def test_far_color(self):
        self.assertEqual(far_color(ROW, (("b", MOST), ("a", 1))), "x")
        self.assertEqual(far_color(ROW, (("b", MOST),)), "")
        self.assertEqual(far_color(ROW, (("b", MOST), ("a", 2))), "")
        self.assertEqual(far_color(book=EMPTY_WORD, far=()), "y")
        self.assertEqual(far_color(NOTHING, ()), "")
        self.assertEqual(far_color(STEP, (("a", MOST), ("b", MOST))), "x")
        self.assertEqual(far_color(STEP, (("b", 1), ("a", 1))), "")
        self.assertEqual(far_color(STEP, (("ba", MOST),)), "")

    def test_rings(self):
        one = ring(199, {0: "x", 1: "y"})
        self.assertEqual(far_color(one, (("a", 199),)), "x")
        self.assertEqual(far_color(one, (("aa", MOST),)), one.color_of("a" * (2 * MOST % 199)))
        left = (-MOST * 7) % 199
        self.assertEqual(far_color(one, (("a" * 7, MOST),) + (("a", left),)), "x")
        self.assertEqual(far_color(one, (("a", left), ("a" * 7, MOST), ("a", 1))), "y")
        # A lead of 3 nodes ahead of a ring of 2.
        other = book("- a1", "- a2", "- a3", "y a4", "z a3")
        for power in range(12):
            self.assertEqual(far_color(other, (("a", power + 1),)), other.color_of("a" * (power + 1)))
        self.assertEqual(far_color(other, (("a", MOST),)), "z")
        self.assertEqual(far_color(other, (("a", MOST - 1),)), "y")

    def test_random_books(self):
        dice = random.Random(73)
        for one, letters in random_books(74, 100):
            for _ in range(10):
                far = drawn(dice, letters, 9)
                self.assertEqual(far_color(one, far), one.color_of(written(far)))
