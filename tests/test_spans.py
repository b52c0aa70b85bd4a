"""The words below, above and between words, and distances."""

import random

from lexiconlines.books import Book
from lexiconlines.errors import InvalidWord, NoWord, TooMany
from lexiconlines.least import least
from lexiconlines.spans import above, below, between, distance
from tests.support import (ANY_VALUES, EMPTY_WORD, NOTHING, ROW, STEP, TWO, LexiconCase, book, chain, random_books,
                           reach_of, ring, strings, words_of)

NO_WORDS = book("-")
# From each node all four letters lead to the next one; the words are the strings of 199 letters.
DEEP = Book([("",) + (at + 1,) * 4 for at in range(199)] + [("z", None, None, None, None)])
LETTERLESS = [value for value in ANY_VALUES if not isinstance(value, str) or value.strip("abcd")]


class SpansTest(LexiconCase):

    def test_ends_that_are_words(self):
        self.assertEqual(below(STEP, "ab"), book("x a1", "x a2", "x a2 b3", "x b3"))
        self.assertEqual(below(ROW, "bba"), book("- a1 b2", "x", "- a1"))
        self.assertEqual(above(book=ROW, word="ba"), book("- b1", "- b2", "- a3 b2", "x"))
        self.assertEqual(between(ROW, low="a", high="bba"), book("- b1", "- a2", "x"))
        self.assertEqual(between(book=ROW, high="a"), NO_WORDS)
        self.assertEqual(between(ROW, low="a", high="ba"), NO_WORDS)

    def test_ends_that_are_no_words(self):
        self.assertEqual(below(book=ROW, word="b"), book("- a1", "x"))
        self.assertEqual(below(ROW, "bbaa"), book("- a1 b2", "x", "- a1 b3", "- a1"))
        self.assertEqual(above(ROW, "b"), book("- b1", "- a2 b1", "x"))
        self.assertEqual(above(ROW, "ab"), book("- b1", "- a2 b1", "x"))
        self.assertEqual(below(ROW, "d"), ROW)
        self.assertEqual(above(ROW, ""), ROW)
        self.assertEqual(above(ROW, "c"), NO_WORDS)
        self.assertEqual(below(ROW, ""), NO_WORDS)
        self.assertEqual(between(ROW, low="", high="dd"), ROW)

    def test_words_that_begin_the_end(self):
        self.assertEqual(words_of(below(TWO, "aa"), "ab", 3), {"": "x", "a": "x"})
        self.assertEqual(words_of(below(TWO, "b"), "ab", 2), {"": "x", "a": "x", "aa": "x", "ab": "x"})
        self.assertEqual(words_of(above(TWO, "b"), "ab", 2), {"ba": "x", "bb": "x"})
        self.assertEqual(words_of(above(TWO, ""), "ab", 1), {"a": "x", "b": "x"})
        self.assertEqual(below(EMPTY_WORD, ""), NO_WORDS)
        self.assertEqual(above(EMPTY_WORD, ""), NO_WORDS)
        self.assertEqual(below(EMPTY_WORD, "a"), EMPTY_WORD)

    def test_without_ends(self):
        self.assertEqual(between(STEP), STEP)
        self.assertEqual(between(book("x a1", "x a0")), book("x a0"))
        self.assertEqual(between(STEP, low=None, high=None), STEP)
        self.assertEqual(between(NOTHING, low="a"), NO_WORDS)

    def test_low_at_or_above_high(self):
        for low, high in (("ab", "ab"), ("b", "a"), ("aa", "a"), ("b", "")):
            self.assertEqual(between(TWO, low=low, high=high), NO_WORDS)

    def test_strings_that_are_no_letters(self):
        for value in LETTERLESS:
            self.check_error(InvalidWord, {"word": value}, below, TWO, value)
            self.check_error(InvalidWord, {"word": value}, above, TWO, value)
            if value is not None:
                self.check_error(InvalidWord, {"word": value}, between, TWO, low=value)
                self.check_error(InvalidWord, {"word": value}, between, TWO, high=value)
                self.check_error(InvalidWord, {"word": value}, between, TWO, high=7, low=value)
        self.check_error(InvalidWord, {"word": 7}, between, TWO, high=7, low="a")

    def test_long_words(self):
        self.assertEqual(below(chain(200), "b"), chain(200))
        self.assertEqual([len(below(TWO, "a" * many)) for many in (1, 40, 199, 200)], [1, 40, 199, 200])
        self.check_error(TooMany, {"count": 201}, below, TWO, "a" * 201)
        self.check_error(TooMany, {"count": 4000}, below, TWO, "a" * 4000)
        self.assertEqual([len(above(TWO, "a" * many)) for many in (0, 40, 198)], [2, 42, 200])
        self.check_error(TooMany, {"count": 201}, above, TWO, "a" * 199)
        self.check_error(TooMany, {"count": 4002}, above, TWO, "a" * 4000)
        self.check_error(TooMany, {"count": 4002}, between, TWO, low="a" * 4000)

    def test_only_the_result_counts(self):
        self.assertEqual(between(TWO, low="ba" + "ab" * 2000, high="ab" + "a" * 3000), NO_WORDS)
        one = ring(200, {0: "x"})
        self.check_error(TooMany, {"count": 201}, above, one, "")
        self.assertEqual(between(one, low="", high="a" * 200), NO_WORDS)
        self.check_error(TooMany, {"count": 201}, between, one, low="", high="a" * 201)

    def test_books_of_200_nodes(self):
        one = ring(200, {0: "x"})
        self.assertEqual(below(one, "b"), one)
        self.assertEqual(below(one, "a" * 200), book("x"))
        self.check_error(TooMany, {"count": 201}, below, one, "a" * 201)
        self.assertEqual(len(below(ring(200, {199: "x"}), "a" * 200)), 200)

    def test_random_books(self):
        dice = random.Random(61)
        for one, letters in random_books(62, 120):
            words = words_of(one, letters, reach_of(letters))
            ends = list(strings(letters, 3))
            for _ in range(4):
                low, high = dice.choice(ends), dice.choice(ends)
                for made, told in (
                    (below(one, high), [word for word in words if word < high]),
                    (above(one, low), [word for word in words if word > low]),
                    (between(one, low=low, high=high), [word for word in words if low < word < high]),
                    (between(one, low=low), [word for word in words if low < word]),
                    (between(one, high=high), [word for word in words if word < high]),
                ):
                    self.assertEqual(words_of(made, letters, reach_of(letters)), {word: words[word] for word in told})
                    self.assertEqual(made, least(made))


class DistanceTest(LexiconCase):

    def test_both_ways_round(self):
        self.assertEqual(distance(ROW, "a", "bba"), 2)
        self.assertEqual(distance(ROW, "bba", "a"), -2)
        self.assertEqual(distance(book=ROW, one="ba", other="bba"), 1)
        self.assertEqual(distance(ROW, "bba", "ba"), -1)

    def test_one_word(self):
        self.assertEqual(distance(ROW, "ba", "ba"), 0)
        self.assertEqual(distance(EMPTY_WORD, "", ""), 0)

    def test_infinitely_many_words_between(self):
        self.assertIsNone(distance(TWO, "a", "b"))
        self.assertIsNone(distance(TWO, "b", "a"))
        self.assertIsNone(distance(STEP, "aa", "a" + "b"))
        self.assertEqual(distance(TWO, "a", "aa"), 1)
        self.assertEqual(distance(TWO, "aaaa", ""), -4)
        self.assertEqual(distance(STEP, "ab", "abbb"), 2)

    def test_words_that_begin_the_other_one(self):
        self.assertEqual(distance(book("x a1 b1", "x a2 b2", "x"), "", "ba"), 5)
        self.assertEqual(distance(book("x a1 b1", "x a2 b2", "x"), "bb", "b"), -2)

    def test_numbers_that_are_too_many_to_list(self):
        self.assertEqual(distance(DEEP, "a" * 199, "d" * 199), 4 ** 199 - 1)
        self.assertEqual(distance(DEEP, "d" * 199, "a" * 199), 1 - 4 ** 199)
        self.assertEqual(distance(DEEP, "a" * 199, "b" + "a" * 198), 4 ** 198)

    def test_never_too_many(self):
        self.assertEqual(distance(TWO, "a" * 300, "a" * 4000), 3700)
        self.assertIsNone(distance(TWO, "b" * 300, "a" * 4000))
        self.assertEqual(distance(ROW, "b" * 3999 + "a", "a"), -3999)
        self.assertEqual(distance(ring(200, {0: "x"}), "a" * 400, "a" * 4000), 18)

    def test_errors_in_their_order(self):
        self.check_error(InvalidWord, {"word": 5}, distance, ROW, 5, None)
        self.check_error(InvalidWord, {"word": None}, distance, ROW, "b", None)
        self.check_error(InvalidWord, {"word": "bx"}, distance, ROW, "bb", "bx")
        self.check_error(NoWord, {"word": "bb", "place": 2}, distance, ROW, "bb", "ab")
        self.check_error(NoWord, {"word": "ab", "place": 1}, distance, ROW, "ba", "ab")
        self.check_error(NoWord, {"word": "ab", "place": 1}, distance, ROW, "ab", "ab")
        for value in LETTERLESS:
            self.check_error(InvalidWord, {"word": value}, distance, ROW, value, "a")
            self.check_error(InvalidWord, {"word": value}, distance, ROW, "a", value)

    def test_random_books(self):
        dice = random.Random(63)
        for one, letters in random_books(64, 200, most_nodes=3):
            # A span of these words needs fewer than 12 nodes, so it is endless exactly if it has long words.
            words = sorted(words_of(one, letters, 13 if len(letters) < 3 else 9))
            few = [word for word in words if len(word) <= (2 if len(letters) < 3 else 1)]
            for _ in range(6 if few else 0):
                low, high = dice.choice(few), dice.choice(few)
                inner = [word for word in words if min(low, high) < word < max(low, high)]
                reach = len(one) + len(low) + len(high) + 2
                if low == high:
                    self.assertEqual(distance(one, low, high), 0)
                elif any(len(word) >= reach for word in inner):
                    self.assertIsNone(distance(one, low, high))
                else:
                    self.assertEqual(distance(one, low, high), (len(inner) + 1) * (1 if low < high else -1))
