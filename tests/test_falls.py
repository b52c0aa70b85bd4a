"""Tuples that fall and rise, to a word, to the beginning and to the end."""

import itertools
import random

from lexiconlines.books import Book
from lexiconlines.falls import falls_to, is_fall, is_rise, rises_to
from tests.support import ANY_VALUES, ROW, STEP, TWO, LexiconCase, book, random_books, ring, strings, words_of

# Any string of a and d, with b or c behind it.
FALLING = book("- a0 b1 c1 d0", "x")
# Both ends are open: a falls on the left, c rises on the right.
OPEN = book("- a0 b1 c0", "x")


class FormTest(LexiconCase):

    def test_values_that_are_no_tuples_of_three_strings(self):
        wrong = ANY_VALUES + [
            ["", "a", "b"], ("", "a"), ("", "a", "b", ""), ("", "", "b"), (None, "a", "b"), ("", None, "b"),
            ("", "a", None), ("e", "a", "b"), ("", "e", "b"), ("", "a", "e"), (("",), "a", "b"), ("", ["a"], "b"),
            ("", "a", True), (0, "a", "b"), ("", "a ", "b"), ("x", "a", "b"),
        ]
        for value in wrong:
            self.assertIs(is_fall(FALLING, value), False, value)
            self.assertIs(is_rise(FALLING, value), False, value)
            for word in (None, "", "a"):
                self.assertIs(falls_to(FALLING, word, value), False, value)
                self.assertIs(rises_to(FALLING, word, value), False, value)

    def test_answers_are_truths(self):
        self.assertIs(is_fall(book=FALLING, value=("", "a", "b")), True)
        self.assertIs(is_rise(book=ROW, value=("", "b", "a")), True)
        self.assertIs(falls_to(book=FALLING, word=None, value=("", "a", "b")), True)
        self.assertIs(rises_to(book=ROW, word=None, value=("", "b", "a")), True)


class FallTest(LexiconCase):

    def test_falls_and_rises(self):
        self.assertTrue(is_fall(TWO, ("", "a", "b")))
        self.assertTrue(is_fall(TWO, ("bb", "ab", "abb")))
        self.assertFalse(is_rise(TWO, ("", "a", "b")))
        self.assertTrue(is_rise(TWO, ("", "b", "a")))
        self.assertFalse(is_fall(TWO, ("", "b", "a")))

    def test_the_empty_string_behind(self):
        # y z begins with z, so it is above.
        self.assertFalse(is_fall(TWO, ("b", "a", "")))
        self.assertTrue(is_rise(TWO, ("b", "a", "")))
        self.assertTrue(is_rise(TWO, ("", "ab", "a")))

    def test_strings_that_part_late(self):
        # y y is below z here, and y z is above it; and the other way round.
        self.assertTrue(is_rise(TWO, ("", "b", "bba")))
        self.assertFalse(is_fall(TWO, ("", "b", "bba")))
        self.assertTrue(is_fall(TWO, ("b", "a", "aab")))
        self.assertFalse(is_rise(TWO, ("b", "a", "aab")))
        self.assertTrue(is_fall(TWO, ("a", "ba", "babababb")))
        self.assertTrue(is_rise(TWO, ("", "ab", "abababa")))

    def test_strings_that_are_no_words(self):
        self.assertFalse(is_fall(FALLING, ("", "a", "a")))
        self.assertFalse(is_fall(FALLING, ("b", "a", "b")))
        self.assertFalse(is_fall(FALLING, ("", "b", "c")))
        self.assertFalse(is_rise(ROW, ("", "b", "")))
        self.assertFalse(is_rise(ROW, ("a", "b", "a")))

    def test_a_word_that_is_missing_late(self):
        # All a^n b are words but those with n = 6, 13 and so on.
        one = book("- a1 b7", "- a2 b7", "- a3 b7", "- a4 b7", "- a5 b7", "- a6 b7", "- a0", "x")
        self.assertFalse(is_fall(one, ("", "a", "b")))
        self.assertFalse(is_fall(one, ("aaa", "a", "b")))
        self.assertTrue(is_fall(one, ("", "a" * 7, "b")))
        self.assertFalse(is_fall(one, ("a" * 6, "a" * 7, "b")))

    def test_strings_that_stop_leading_on(self):
        # z and y z are words, and y y leads nowhere.
        one = book("- a1 b2", "- b2", "x")
        self.assertFalse(is_fall(one, ("", "a", "b")))
        self.assertFalse(is_fall(one, ("aa", "a", "b")))
        self.assertFalse(is_fall(book("- a1 b1", "x"), ("", "a", "b")))

    def test_long_strings(self):
        one = ring(200, {at: "x" for at in range(200)})
        self.assertTrue(is_rise(one, ("a" * 4000, "a" * 399, "a" * 4000)))
        self.assertTrue(rises_to(one, None, ("a" * 4000, "a" * 399, "a" * 4000)))
        self.assertTrue(rises_to(one, "b", ("a" * 4000, "a" * 399, "a" * 4000)))


class LimitTest(LexiconCase):

    def test_to_the_beginning_and_to_the_end(self):
        self.assertTrue(falls_to(OPEN, None, ("", "a", "b")))
        self.assertTrue(rises_to(OPEN, None, ("", "c", "b")))
        self.assertFalse(falls_to(OPEN, None, ("c", "a", "b")))
        self.assertFalse(rises_to(OPEN, None, ("a", "c", "b")))
        self.assertFalse(rises_to(OPEN, None, ("", "a", "b")))
        self.assertFalse(falls_to(OPEN, None, ("", "c", "b")))
        # The empty word stands below all others.
        self.assertFalse(falls_to(book("x a1 b2", "- a1 b2", "x"), None, ("", "a", "b")))
        # Words that begin x y y y and so on stand below, too.
        self.assertFalse(falls_to(book("- a1 b2", "- a3 b2", "x", "x a3 b2"), None, ("", "a", "b")))
        self.assertTrue(rises_to(TWO, None, ("", "b", "")))
        self.assertFalse(rises_to(TWO, None, ("", "a", "")))

    def test_to_strings_that_begin_them(self):
        for word in ("", "a", "aa", "a" * 50):
            self.assertTrue(falls_to(OPEN, word, ("", "a", "b")), word)
            self.assertTrue(falls_to(OPEN, word, ("aaa", "a", "b")), word)
        for word in ("", "c", "cc", "c" * 50):
            self.assertFalse(rises_to(OPEN, word, ("", "c", "b")), word)
        self.assertTrue(rises_to(OPEN, "d", ("", "c", "b")))
        self.assertTrue(rises_to(OPEN, "ccccd", ("", "c", "b")))

    def test_to_a_word(self):
        # Between the words of b and those of c stands nothing: those of c fall to b.
        one = book("- b1 c2", "x", "- a2 b1")
        self.assertTrue(falls_to(one, "b", ("c", "a", "b")))
        self.assertFalse(falls_to(one, "b", ("ca", "b", "b")))
        self.assertTrue(rises_to(TWO, "b", ("a", "b", "")))
        self.assertFalse(rises_to(TWO, "ba", ("a", "b", "")))
        self.assertFalse(rises_to(TWO, "b", ("", "ab", "")))
        self.assertFalse(rises_to(TWO, "ab", ("a", "b", "")))

    def test_to_strings_that_are_no_words(self):
        one = book("- b1 c2", "x", "- a2 b1")
        for word in ("b", "ba", "bdd", "c", "ca", "caa", "caaaaaaaaa"):
            self.assertTrue(falls_to(one, word, ("c", "a", "b")), word)
        # Below b another word stands between; cab and all above are not below all of them.
        for word in ("", "a", "ad", "cab", "cb", "d", "caab", "cad"):
            self.assertFalse(falls_to(one, word, ("c", "a", "b")), word)
        # Between the words of a alone and each longer one that goes on with b there is another one.
        for word in ("", "a", "ab", "aab", "ad", "b", "c", "dd"):
            self.assertFalse(rises_to(STEP, word, ("", "a", "")), word)

    def test_rising_words_stay_below(self):
        one = book("- b1 d2", "- b3 c1", "x", "y")
        for word in ("c", "ca", "d", "bd", "bcd", "bcccccd"):
            self.assertTrue(rises_to(one, word, ("b", "c", "b")), word)
        # bccc begins what they rise to, so some of them are above it; behind d stands another word between.
        for word in ("bccc", "b", "bcc", "bb", "bcb", "", "da", "dd"):
            self.assertFalse(rises_to(one, word, ("b", "c", "b")), word)
        self.assertFalse(rises_to(one, None, ("b", "c", "b")))

    def test_tuples_with_one_string_bent(self):
        one = book("- b1 c2", "x", "- a2 b1")
        good = ("c", "a", "b")
        self.assertTrue(falls_to(one, "b", good))
        for at in range(3):
            for bent in ("", "d", good[at] + "d", "bb"):
                value = good[:at] + (bent,) + good[at + 1:]
                self.assertFalse(falls_to(one, "b", value), value)
        self.assertFalse(falls_to(one, "b", list(good)))
        self.assertFalse(falls_to(one, "b", good + ("",)))
        # The same words, written in another way.
        for value in (("ca", "a", "b"), ("c", "aa", "ab"), ("c", "aaa", "b")):
            self.assertTrue(falls_to(one, "b", value), value)

    def test_words_that_branch_off_late(self):
        for branch, free in ((None, True), (150, False), (198, False)):
            nodes = [("" if at else "x", None, (at + 1) % 199, None, 199 if at == branch else None) for at in range(199)]
            one = Book(nodes + [("y", None, None, None, None)])
            self.assertTrue(is_rise(one, ("", "b" * 199, "")))
            self.assertIs(rises_to(one, None, ("", "b" * 199, "")), free)
            self.assertIs(rises_to(one, "d", ("", "b" * 199, "")), free)


class RandomTest(LexiconCase):

    def test_random_books(self):
        dice = random.Random(81)
        found = {True: 0, False: 0}
        for one, letters in random_books(82, 150, most_nodes=3):
            words = words_of(one, letters, 7 if len(letters) < 3 else 5)
            pieces = list(strings(letters, 2))
            for value in dice.sample(list(itertools.product(pieces, pieces, pieces)), 25):
                self.check_value(one, words, dice.choice(pieces), value, found)
        self.assertGreater(min(found.values()), 20)

    def check_value(self, one, words, word, value, found):
        """Checks one tuple against its first words, and against all short words of the book."""
        x, y, z = value
        row = [x + y * many + z for many in range(12)]
        every = y != "" and all(one.color_of(told) for told in row)
        falls = every and y + z < z
        rises = every and z < y + z
        self.assertIs(is_fall(one, value), falls)
        self.assertIs(is_rise(one, value), rises)
        last = row[-1]
        if falls:
            for goal in (word, None):
                near = not any((goal is None or other > goal) and other < last for other in words)
                expected = near and (goal is None or goal < last)
                self.assertIs(falls_to(one, goal, value), expected)
                self.assertIs(rises_to(one, goal, value), False)
                found[expected] += 1
        elif rises:
            for goal in (word, None):
                # Words that only begin the strings of the tuple are below them from some place on.
                near = not any((goal is None or other < goal) and other > last for other in words)
                expected = near and (goal is None or goal > last)
                self.assertIs(rises_to(one, goal, value), expected)
                self.assertIs(falls_to(one, goal, value), False)
                found[expected] += 1
        else:
            self.assertIs(falls_to(one, word, value) or rises_to(one, None, value), False)
