"""Words, colors, names and short order."""

import random
import unittest

from lexiconlines.words import COLORS, LETTERS, in_short_order, is_color, is_name, is_word
from tests.support import ANY_VALUES, short


class WordsTest(unittest.TestCase):

    def test_constants(self):
        self.assertEqual((LETTERS, COLORS), ("abcd", "xyz"))

    def test_words_have_0_to_40_letters(self):
        for word in ("", "a", "b", "c", "d", "abcd", "dcba" * 10, "d" * 39, "a" * 40):
            self.assertIs(is_word(word), True, word)
        for word in ("a" * 41, "abcd" * 100, "e", "A", "-", "aea", "eab", "abe", " ", "a ", " a", "a\n", "a b", "x"):
            self.assertIs(is_word(word), False, word)

    def test_other_values_are_no_words(self):
        good = [value for value in ANY_VALUES if is_word(value)]
        self.assertEqual(good, ["", "a", "ab"])

    def test_colors(self):
        good = [value for value in ANY_VALUES + ["y", "z", "xyz", "yz", "X"] if is_color(value)]
        self.assertEqual(good, ["x", "y", "z"])
        self.assertIs(is_color("x"), True)
        self.assertIs(is_color("xy"), False)
        self.assertIs(is_color(None), False)

    def test_names_have_1_to_6_lowercase_letters(self):
        for name in ("a", "z", "abcdef", "zzzzzz", "e", "two"):
            self.assertIs(is_name(name), True, name)
        for name in ("", "abcdefg", "A", "aB", "a1", "a b", "a-", "a_b", "\n", "a\n", " a", "ab "):
            self.assertIs(is_name(name), False, name)
        self.assertEqual([value for value in ANY_VALUES if is_name(value)], ["a", "ab", "e", "x", "w", "xy"])

    def test_short_order(self):
        self.assertEqual(in_short_order(["b", "aa", "", "d", "ab", "b", "aa", "c"]), ["", "b", "c", "d", "aa", "ab"])
        self.assertEqual(in_short_order([]), [])
        self.assertEqual(in_short_order(("ba", "a")), ["a", "ba"])

    def test_short_order_of_many(self):
        dice = random.Random(3)
        words = ["".join(dice.choice("abcd") for _ in range(dice.randrange(4))) for _ in range(300)]
        before = list(words)
        found = in_short_order(words)
        self.assertEqual(words, before)
        self.assertEqual(found, sorted(set(words), key=short))
        self.assertIs(found.__class__, list)
