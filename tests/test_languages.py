"""Books made from the words of other books."""

import random

from lexiconlines.books import Book
from lexiconlines.errors import InvalidCode, InvalidColor, InvalidWord, TooMany
from lexiconlines.languages import behind, coded, common, only, over, recolored, under, without
from lexiconlines.least import least
from tests.support import (ANY_VALUES, EMPTY_WORD, NOTHING, ROW, STEP, TWO, LexiconCase, book, chain, random_book,
                           random_books, reach_of, ring, strings, words_of)

NO_WORDS = book("-")
SAME_CODE = ["a", "b", "c", "d"]


class LanguageCase(LexiconCase):

    def check_book(self, made, letters, words):
        """Checks that a book is exact and has just these words, as far as the reach of the letters."""
        self.assertEqual(words_of(made, letters, reach_of(letters)), words)
        self.assertEqual(made, least(made))


class ColorsTest(LanguageCase):

    def test_no_color(self):
        for value in ANY_VALUES + ["xyz", "X", "yz"]:
            if value != "x":
                self.check_error(InvalidColor, {"color": value}, only, TWO, value)
                self.check_error(InvalidColor, {"color": value}, without, TWO, value)

    def test_only_and_without(self):
        one = book("x a1", "y a2 b0", "z a0")
        self.assertEqual(only(one, "y"), book("- a1", "y a2 b0", "- a0"))
        self.assertEqual(without(book=one, color="y"), book("x a1", "- a2 b0", "z a0"))
        self.assertEqual(only(book=STEP, color="x"), STEP)
        self.assertEqual(without(STEP, "y"), STEP)
        self.assertEqual(only(STEP, "z"), NO_WORDS)
        self.assertEqual(without(STEP, "x"), NO_WORDS)

    def test_random_books(self):
        for one, letters in random_books(51, 60):
            words = words_of(one, letters, reach_of(letters))
            for color in "xyz":
                self.check_book(only(one, color), letters, {word: it for word, it in words.items() if it == color})
                self.check_book(without(one, color), letters, {word: it for word, it in words.items() if it != color})

    def test_recolored(self):
        one = book("x a1", "y a2", "z a3", "- a0")
        self.assertEqual(recolored(one, x="z", y="x"), book("z a1", "x a2", "z a3", "- a0"))
        self.assertEqual(recolored(one, x="y", y="x"), book("y a1", "x a2", "z a3", "- a0"))
        self.assertEqual(recolored(one, z="z"), one)
        self.assertEqual(recolored(one), one)
        self.assertEqual(recolored(book("x a1", "y a0"), y="x"), book("x a0"))

    def test_recolored_is_done_all_at_once(self):
        self.assertEqual(recolored(book("x a1", "y a2", "z"), x="y", y="z", z="x"), book("y a1", "z a2", "x"))

    def test_wrong_keywords_and_values(self):
        self.check_error(InvalidColor, {"color": "w"}, recolored, TWO, w="x")
        self.check_error(InvalidColor, {"color": "w"}, recolored, TWO, x="w", w="w")
        self.check_error(InvalidColor, {"color": "xy"}, recolored, TWO, x="y", xy="x", q="x")
        # All keywords come ahead of all values.
        self.check_error(InvalidColor, {"color": "q"}, recolored, TWO, x=5, q="x")
        self.check_error(InvalidColor, {"color": 5}, recolored, TWO, y="x", x=5, z=6)
        for value in ANY_VALUES:
            if value != "x":
                self.check_error(InvalidColor, {"color": value}, recolored, TWO, y=value)

    def test_recolored_words(self):
        for one, letters in random_books(52, 40):
            words = words_of(one, letters, reach_of(letters))
            colors = {"x": "y", "z": "x"}
            self.check_book(recolored(one, **colors), letters, {word: colors.get(it, it) for word, it in words.items()})


class TwoBooksTest(LanguageCase):

    def test_colors_of_words_of_both(self):
        one, other = book("x a1 b2", "y", "z"), book("z a1 c1", "x")
        self.assertEqual(words_of(over(one, other), "abc", 2), {"": "x", "a": "y", "b": "z", "c": "x"})
        self.assertEqual(words_of(over(one=other, other=one), "abc", 2), {"": "z", "a": "x", "b": "z", "c": "x"})
        self.assertEqual(words_of(common(one, other), "abc", 2), {"": "x", "a": "y"})
        self.assertEqual(words_of(common(one=other, other=one), "abc", 2), {"": "z", "a": "x"})

    def test_with_a_book_without_words(self):
        self.assertEqual(over(ROW, NOTHING), ROW)
        self.assertEqual(over(NOTHING, ROW), ROW)
        self.assertEqual(common(ROW, NOTHING), NO_WORDS)
        self.assertEqual(common(NOTHING, ROW), NO_WORDS)
        self.assertEqual(over(NOTHING, book("- a0 b0")), NO_WORDS)

    def test_random_books(self):
        dice = random.Random(53)
        for one, letters in random_books(54, 100):
            other = random_book(dice, 4, letters, 0.7, 0.6)
            words = words_of(one, letters, reach_of(letters))
            further = words_of(other, letters, reach_of(letters))
            either = {word: words.get(word, further.get(word)) for word in strings(letters, reach_of(letters))}
            self.check_book(over(one, other), letters, {word: color for word, color in either.items() if color})
            both = {word: color for word, color in words.items() if word in further}
            self.check_book(common(one, other), letters, both)

    def test_too_many_nodes(self):
        self.assertEqual(len(over(ring(8, {0: "x"}), ring(25, {0: "x"}))), 200)
        self.assertEqual(common(ring(8, {0: "x"}), ring(25, {0: "x"})), ring(200, {0: "x"}))
        for call in (over, common):
            self.check_error(TooMany, {"count": 201}, call, ring(3, {0: "x"}), ring(67, {0: "x"}))
            self.check_error(TooMany, {"count": 199 * 200}, call, ring(199, {0: "x"}), ring(200, {0: "x"}))
        # The many pairs of nodes that these books have do the same as few nodes.
        every = [ring(many, {at: "x" for at in range(many)}) for many in (199, 200)]
        self.assertEqual(over(*every), book("x a0"))
        self.assertEqual(over(ring(199, {3: "x"}), every[1]), book("x a0"))
        self.assertEqual(common(ring(199, {}), every[1]), NO_WORDS)


class WordsAheadTest(LanguageCase):

    def test_under(self):
        self.assertEqual(under(ROW, "b"), book("- b1", "- a2 b1", "x"))
        self.assertEqual(under(book=STEP, word=""), STEP)
        self.assertEqual(under(EMPTY_WORD, "dca"), book("- d1", "- c2", "- a3", "y"))
        self.assertEqual(under(NOTHING, "abc"), NO_WORDS)
        self.assertEqual(under(book("x a0"), "a"), book("- a1", "x a1"))
        self.assertEqual(under(book("- a0 b1", "y"), "aa"), book("- a1", "- a2", "- a2 b3", "y"))

    def test_under_long_words(self):
        self.assertEqual(len(under(EMPTY_WORD, "ab" * 99 + "a")), 200)
        self.check_error(TooMany, {"count": 201}, under, EMPTY_WORD, "ab" * 100)
        self.check_error(TooMany, {"count": 4002}, under, ROW, "d" * 4000)
        self.assertEqual(under(chain(160), "a" * 40), chain(200))
        self.check_error(TooMany, {"count": 201}, under, chain(161), "a" * 40)

    def test_behind(self):
        self.assertEqual(behind(ROW, "b"), ROW)
        self.assertEqual(behind(ROW, "bba"), book("x"))
        self.assertEqual(behind(book=ROW, word="ab"), NO_WORDS)
        self.assertEqual(behind(STEP, "ab"), book("x b0"))
        self.assertEqual(behind(STEP, ""), STEP)
        self.assertEqual(behind(book("x a1", "- a1"), "a"), NO_WORDS)
        self.assertEqual(behind(TWO, "ab" * 2000), TWO)
        self.assertEqual(behind(chain(200), "a" * 199), book("x"))
        self.assertEqual(behind(chain(200), "a" * 200), NO_WORDS)

    def test_strings_that_are_no_letters(self):
        for value in ANY_VALUES:
            if not isinstance(value, str) or value.strip("abcd"):
                self.check_error(InvalidWord, {"word": value}, under, TWO, value)
                self.check_error(InvalidWord, {"word": value}, behind, TWO, value)

    def test_random_books(self):
        for one, letters in random_books(55, 40):
            words = words_of(one, letters, reach_of(letters))
            for word in ("", letters[0], letters[-1] + letters[0]):
                led = {word + rest: color for rest, color in words.items() if len(word + rest) <= reach_of(letters)}
                self.check_book(under(one, word), letters, led)
                self.assertEqual(behind(under(one, word), word), least(one))
                rest = {rest[len(word):]: color for rest, color in words.items() if rest.startswith(word)}
                self.assertEqual(words_of(behind(one, word), letters, reach_of(letters) - len(word)), rest)


class CodedTest(LanguageCase):

    def test_codes(self):
        self.assertEqual(coded(STEP, SAME_CODE), STEP)
        self.assertEqual(coded(book=book("x a0 b0 c0 d0"), code=("aa", "ab", "ba", "bb")),
                         book("x a1 b1", "- a0 b0"))
        self.assertEqual(coded(book("x a0 b1 c0", "y d1"), ["a", "ba", "bc", "cb"]),
                         book("x a0 b1", "- a2 c0", "y c3", "- b2"))
        self.assertEqual(coded(NOTHING, SAME_CODE), NO_WORDS)

    def test_words_of_one_to_ten_letters(self):
        code = ["a" * 10, "aaaaab", "b", "dddddddddd"]
        found = coded(book("x a0 b1 d2", "y", "z"), code)
        self.assertEqual(words_of(found, "abd", 10), {
            "": "x", "a" * 10: "x", "aaaaab": "y", "d" * 10: "z"})

    def test_values_that_are_no_list_of_four(self):
        for value in [None, True, 4, "abcd", TWO, [], (), ["a"], ["a", "b", "c"], ["a", "b", "c", "d", "da"], ("a", "b", "c")]:
            self.check_error(InvalidCode, {"at": -1}, coded, TWO, value)
        self.check_error(InvalidCode, {"at": -1}, coded, TWO, [None, None, None])

    def test_wrong_items(self):
        for value in ANY_VALUES:
            if value not in ("a", "ab"):
                self.check_error(InvalidCode, {"at": 0}, coded, TWO, [value, "b", "c", "d"])
                self.check_error(InvalidCode, {"at": 1}, coded, TWO, ("aa", value, "c", "d"))
                self.check_error(InvalidCode, {"at": 3}, coded, TWO, ["a", "b", "c", value])
        self.check_error(InvalidCode, {"at": 2}, coded, TWO, ["a", "b", "c" * 11, "d"])
        self.assertEqual(len(coded(book("- c1", "x"), ["a", "b", "c" * 10, "d"])), 11)

    def test_order_of_items(self):
        self.check_error(InvalidCode, {"at": 1}, coded, TWO, ["b", "a", "c", "d"])
        self.check_error(InvalidCode, {"at": 3}, coded, TWO, ["a", "b", "d", "c"])
        self.check_error(InvalidCode, {"at": 1}, coded, TWO, ["a", "a", "c", "d"])
        self.check_error(InvalidCode, {"at": 2}, coded, TWO, ["a", "b", "b", "d"])
        self.check_error(InvalidCode, {"at": 1}, coded, TWO, ["d", "c", "b", "a"])

    def test_items_that_begin_with_the_item_ahead(self):
        self.check_error(InvalidCode, {"at": 1}, coded, TWO, ["a", "ab", "b", "c"])
        self.check_error(InvalidCode, {"at": 3}, coded, TWO, ["a", "b", "c", "cc"])
        self.assertEqual(len(coded(TWO, ["ab", "ac", "b", "c"])), 2)

    def test_the_first_of_several_wrong_items(self):
        self.check_error(InvalidCode, {"at": 0}, coded, TWO, [None, True, "", 5])
        self.check_error(InvalidCode, {"at": 1}, coded, TWO, ["b", "a", None, ""])
        self.check_error(InvalidCode, {"at": 2}, coded, TWO, ["a", "b", "e", "a"])

    def test_too_many_nodes(self):
        code = ["a" * 10, "b" * 10, "c" * 10, "d" * 10]
        self.assertEqual(len(coded(ring(20, {0: "x"}), code)), 200)
        self.check_error(TooMany, {"count": 210}, coded, ring(21, {0: "x"}), code)

    def test_random_books(self):
        codes = [["a", "ba", "bb", "c"], ["aab", "ab", "b", "d"], ["b", "ca", "cc", "d"]]
        for one, letters in random_books(56, 60):
            for code in codes:
                table = {letter: word for letter, word in zip("abcd", code)}
                found = coded(one, code)
                words = words_of(one, letters, 3)
                expected = {"".join(table[letter] for letter in word): color for word, color in words.items()}
                reached = words_of(found, "abcd", 3)
                self.assertEqual({word: color for word, color in expected.items() if len(word) <= 3}, reached)
                self.assertEqual(found, least(found))


class ExactTest(LanguageCase):

    def test_books_of_200_nodes(self):
        one = ring(200, {0: "x", 3: "y"})
        self.assertEqual(only(one, "y"), least(ring(200, {3: "y"})))
        self.assertEqual(recolored(one, x="z"), ring(200, {0: "z", 3: "y"}))
        self.assertEqual(behind(one, "aa"), ring(200, {198: "x", 1: "y"}))
        self.assertEqual(without(one, "y"), ring(200, {0: "x"}))
        self.assertEqual(under(one, ""), one)
        self.assertEqual(coded(one, SAME_CODE), one)
        self.assertEqual(over(one, one), one)
        self.assertEqual(common(one, one), one)

    def test_doubled_nodes_fall_away(self):
        one = Book([("x", 1, None, None, None), ("x", 0, None, None, None)])
        self.assertEqual(recolored(one, x="y"), book("y a0"))
        self.assertEqual(only(one, "x"), book("x a0"))
