"""Words listed and counted, for finite books and endless ones."""

import itertools

from lexiconlines.books import Book
from lexiconlines.listing import by_length, count_of_length, count_words, is_finite, shortest, words_upto
from tests.support import (EMPTY_WORD, NOTHING, ROW, TWO, LexiconCase, book, chain, random_books, reach_of, ring, short,
                           words_of)

FAR = 10 ** 30
# From each node all four letters lead to the next one; the words are those of 0 to 199 letters.
WIDE = Book([("x",) + (at + 1,) * 4 for at in range(199)] + [("y", None, None, None, None)])
# The same, but only the 4 ** 199 strings of 199 letters are words.
DEEP = Book([("",) + (at + 1,) * 4 for at in range(199)] + [("z", None, None, None, None)])


class FiniteTest(LexiconCase):

    def test_no_words(self):
        for one in (NOTHING, book("- a0 b1", "- c0")):
            self.assertEqual(list(by_length(one)), [])
            self.assertEqual(words_upto(one, 5), [])
            self.assertEqual(words_upto(one, FAR), [])
            self.assertEqual([count_of_length(one, many) for many in (0, 1, 60)], [0, 0, 0])
            self.assertEqual(count_words(one), 0)
            self.assertIs(is_finite(one), True)
            self.assertIsNone(shortest(one))

    def test_the_empty_word_alone(self):
        self.assertEqual(list(by_length(EMPTY_WORD)), [""])
        self.assertEqual(words_upto(EMPTY_WORD, 0), [""])
        self.assertEqual([count_of_length(EMPTY_WORD, many) for many in (0, 1)], [1, 0])
        self.assertEqual(count_words(EMPTY_WORD), 1)
        self.assertEqual(shortest(EMPTY_WORD), "")

    def test_few_words(self):
        one = book("- a2 b1", "x a3 c3", "- d3", "z")
        self.assertEqual(list(by_length(one)), ["b", "ad", "ba", "bc"])
        self.assertEqual(list(by_length(one, FAR)), ["b", "ad", "ba", "bc"])
        self.assertEqual(list(by_length(book=one, most=2)), ["b", "ad"])
        self.assertEqual(list(by_length(one, 0)), [])
        self.assertEqual(words_upto(one, 0), [])
        self.assertEqual(words_upto(one, 1), ["b"])
        self.assertEqual(words_upto(one, 2), ["ad", "b", "ba", "bc"])
        self.assertEqual(words_upto(book=one, length=FAR), ["ad", "b", "ba", "bc"])
        self.assertEqual([count_of_length(one, many) for many in (0, 1, 2, 3, 60, 61)], [0, 1, 3, 0, 0, 0])
        self.assertEqual(count_of_length(one, FAR), 0)
        self.assertEqual(count_words(one), 4)
        self.assertIs(is_finite(one), True)
        self.assertEqual(shortest(one), "b")

    def test_the_longest_word(self):
        one = chain(200)
        self.assertEqual(list(by_length(one)), ["a" * 199])
        self.assertEqual(words_upto(one, 198), [])
        self.assertEqual(words_upto(one, 199), ["a" * 199])
        self.assertEqual(words_upto(one, FAR), ["a" * 199])
        self.assertEqual(count_words(one), 1)
        self.assertEqual(shortest(one), "a" * 199)

    def test_numbers_of_words_that_are_too_many_to_list(self):
        self.assertEqual(count_words(WIDE), (4 ** 200 - 1) // 3)
        self.assertEqual(count_words(DEEP), 4 ** 199)
        self.assertEqual(count_of_length(WIDE, 60), 4 ** 60)
        self.assertEqual(count_of_length(DEEP, 60), 0)
        self.assertIs(is_finite(DEEP), True)
        self.assertEqual(shortest(DEEP), "a" * 199)
        self.assertEqual(list(by_length(DEEP, 3)), ["a" * 198 + letter for letter in "abc"])
        self.assertEqual(words_upto(WIDE, 1), ["", "a", "b", "c", "d"])

    def test_rings_that_no_word_goes_through(self):
        # 1 and 2 lead around, but have no words; 3 and 4 have endless words, but nothing leads to them.
        one = book("x a1 b5", "- a2", "- a1", "x a4", "x a3", "y")
        self.assertIs(is_finite(one), True)
        self.assertEqual(count_words(one), 2)
        self.assertEqual(list(by_length(one, 9)), ["", "b"])
        self.assertEqual([count_of_length(one, many) for many in (0, 1, 2, FAR)], [1, 1, 0, 0])

    def test_numbers_below_0(self):
        self.assertEqual(list(by_length(EMPTY_WORD, -1)), [])
        self.assertEqual(words_upto(EMPTY_WORD, -1), [])
        self.assertEqual(count_of_length(EMPTY_WORD, -1), 0)


class EndlessTest(LexiconCase):

    def test_all_strings_of_two_letters(self):
        self.assertEqual(list(by_length(TWO, 8)), ["", "a", "b", "aa", "ab", "ba", "bb", "aaa"])
        self.assertEqual(words_upto(TWO, 2), ["", "a", "aa", "ab", "b", "ba", "bb"])
        self.assertEqual([count_of_length(TWO, many) for many in (0, 1, 10, 60)], [1, 2, 1024, 2 ** 60])
        self.assertIsNone(count_words(TWO))
        self.assertIs(is_finite(TWO), False)
        self.assertEqual(shortest(TWO), "")

    def test_twenty_words_unless_told_otherwise(self):
        self.assertEqual(len(list(by_length(TWO))), 20)
        self.assertEqual(list(by_length(ROW)), ["b" * many + "a" for many in range(20)])

    def test_endless_listing(self):
        first = list(itertools.islice(by_length(TWO, FAR), 2000))
        self.assertEqual(first[:5], ["", "a", "b", "aa", "ab"])
        self.assertEqual(first, sorted(first, key=short))
        self.assertEqual(len(set(first)), 2000)

    def test_lengths_without_words(self):
        one = ring(200, {3: "x"})
        self.assertEqual(list(by_length(one, 3)), ["a" * 3, "a" * 203, "a" * 403])
        self.assertEqual([count_of_length(one, many) for many in (2, 3, 4)], [0, 1, 0])
        self.assertEqual(words_upto(one, 402), ["a" * 3, "a" * 203])
        self.assertEqual(shortest(one), "aaa")

    def test_the_first_of_the_shortest_words(self):
        self.assertEqual(shortest(book("- b1 c2", "- c3", "- a3", "x a0")), "bc")
        self.assertEqual(shortest(book("- a1 b2", "- a2", "z b2")), "b")


class RandomTest(LexiconCase):

    def test_random_books(self):
        for one, letters in random_books(41, 150):
            reach = reach_of(letters)
            words = list(words_of(one, letters, reach))
            self.assertEqual(words, sorted(words, key=short))
            self.assertEqual(words_upto(one, reach), sorted(words))
            self.assertEqual(words_upto(one, 3), sorted(word for word in words if len(word) <= 3))
            self.assertEqual(list(by_length(one, min(30, len(words)))), words[:30])
            self.assertEqual(shortest(one), words[0] if words else None)
            for many in range(reach + 1):
                self.assertEqual(count_of_length(one, many), len([word for word in words if len(word) == many]))
            # A book has infinitely many words exactly if some word has as many letters as it has nodes, or more.
            endless = any(len(word) >= len(one) for word in words)
            self.assertIs(is_finite(one), not endless)
            self.assertEqual(count_words(one), None if endless else len(words))
