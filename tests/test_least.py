"""Least forms, and strings that part nodes and books."""

import random

from lexiconlines.books import Book
from lexiconlines.least import first_difference, least, parting_word, same_words
from tests.support import (EMPTY_WORD, NOTHING, ROW, STEP, TWO, LexiconCase, begun_at, book, chain, least_size,
                           random_book, random_books, reach_of, ring, short, strings, words_of)


class LeastTest(LexiconCase):

    def test_books_without_words(self):
        bare = Book([("", None, None, None, None)])
        for one in (NOTHING, book("- a0 b0"), book("- a1", "- b0", "x a2"), ring(200, {})):
            self.assertEqual(least(one), bare)

    def test_nodes_that_fall_away(self):
        # No string leads to 1; 2 has no words; 3 does the same as 0.
        one = book("x a0 b2 c3", "y a0", "- a2 b2", "x a3 c0")
        self.assertEqual(least(one), book("x a0 c0"))

    def test_doubled_nodes(self):
        self.assertEqual(least(book("x a1 b2", "y a3", "y a4", "z", "z")), book("x a1 b1", "y a2", "z"))
        self.assertEqual(least(ring(200, {at: "x" for at in range(200)})), book("x a0"))
        self.assertEqual(least(ring(200, {at: "x" for at in range(0, 200, 8)})), ring(8, {0: "x"}))

    def test_nodes_with_unlike_colors_stay(self):
        one = book("- a1 b2", "x", "y")
        self.assertEqual(least(one), one)

    def test_nodes_are_numbered_by_the_first_words_that_lead_to_them(self):
        one = book("- b2 d1", "x", "- a3 c1", "y d2")
        self.assertEqual(least(one), book("- b1 d2", "- a3 c2", "x", "y d1"))
        # b leads to a node ahead of aa, since it is shorter.
        self.assertEqual(least(book("x a1 b2", "x a3", "y", "z")), book("x a1 b2", "x a3", "y", "z"))
        self.assertEqual(least(book("x a2 b3", "z", "x a1", "y")), book("x a1 b2", "x a3", "y", "z"))

    def test_books_of_200_nodes(self):
        self.assertEqual(least(chain(200)), chain(200))
        self.assertEqual(least(ring(200, {0: "x", 1: "y"})), ring(200, {0: "x", 1: "y"}))
        self.assertEqual(len(least(ring(200, {7: "x"}))), 200)

    def test_the_given_book_stays(self):
        one = book("x a1", "x a0")
        self.assertEqual(least(book=one), book("x a0"))
        self.assertEqual(one, book("x a1", "x a0"))

    def test_random_books(self):
        for one, letters in random_books(31, 150, most_nodes=9):
            found = least(one)
            self.assertEqual(words_of(found, letters, reach_of(letters)), words_of(one, letters, reach_of(letters)))
            self.assertEqual(len(found), least_size(one))
            self.assertEqual(least(found), found)
            firsts = [min([word for word in strings(letters, len(found)) if found.node_at(word) == node], key=short)
                      for node in range(len(found)) if len(letters) == 1 or len(found) < 6]
            self.assertEqual(firsts, sorted(firsts, key=short))

    def test_equal_words_have_equal_least_forms(self):
        dice = random.Random(32)
        for one, _ in random_books(33, 60):
            # The nodes in another order, each of them twice, and the children drawn from both copies.
            many = len(one)
            order = list(range(2 * many))
            dice.shuffle(order)
            order.remove(0)
            place = {node: at for at, node in enumerate([0] + order)}
            nodes = [None] * (2 * many)
            for node in range(2 * many):
                color, *children = one.nodes()[node % many]
                nodes[place[node]] = (color, *[None if child is None else place[child + dice.choice([0, many])]
                                               for child in children])
            self.assertEqual(least(Book(nodes)), least(one))


class PartingTest(LexiconCase):

    def test_nodes_of_a_book(self):
        one = book("x a1 b2", "x a0", "y b2")
        self.assertIsNone(parting_word(one, 0, 0))
        self.assertEqual(parting_word(one, 0, 1), "b")
        self.assertEqual(parting_word(one, 1, 0), "b")
        self.assertEqual(parting_word(one, 0, 2), "")
        self.assertEqual(parting_word(one, 0, 2, colors=True), "")
        self.assertEqual(parting_word(one, 0, 2, colors=False), "a")
        self.assertEqual(parting_word(book=one, one=0, other=1, colors=False), "b")

    def test_only_colors_differ(self):
        one = book("x a0", "y a1")
        self.assertEqual(parting_word(one, 0, 1), "")
        self.assertIsNone(parting_word(one, 0, 1, colors=False))
        self.assertEqual(first_difference(book("x a0"), book("x a1", "y a1")), "a")
        self.assertIsNone(first_difference(book("x a0"), book("x a1", "y a1"), colors=False))
        self.assertIs(same_words(book("x a0"), book("x a1", "y a1")), False)
        self.assertIs(same_words(book("x a0"), book("x a1", "y a1"), colors=True), False)
        self.assertIs(same_words(one=book("x a0"), other=book("x a1", "y a1"), colors=False), True)

    def test_nodes_without_words(self):
        one = book("- a1", "- b0", "-", "x")
        self.assertIsNone(parting_word(one, 0, 2))
        self.assertEqual(parting_word(one, 0, 3), "")
        self.assertIsNone(first_difference(NOTHING, one))
        self.assertEqual(first_difference(NOTHING, EMPTY_WORD), "")
        self.assertEqual(first_difference(one=ROW, other=NOTHING), "a")

    def test_short_order_decides(self):
        # c parts the two, and so does aa; c is shorter.
        self.assertEqual(first_difference(book("x a1 c1", "y a1"), book("x a1", "y")), "c")
        self.assertEqual(first_difference(book("x a1 b1", "y"), book("x")), "a")
        self.assertEqual(first_difference(TWO, STEP), "ba")

    def test_long_strings(self):
        self.assertEqual(first_difference(ring(199, {0: "x"}), ring(200, {0: "x"})), "a" * 199)
        self.assertEqual(first_difference(chain(200, "x"), chain(200, "y")), "a" * 199)
        self.assertIsNone(first_difference(chain(200, "x"), chain(200, "y"), colors=False))
        every = [{at: "x" for at in range(many)} for many in (199, 200)]
        self.assertIs(same_words(ring(199, every[0]), ring(200, every[1])), True)
        # Two rings of 97 and 103 nodes in one book part as late as two nodes of a book can.
        nodes = [("x" if at < 96 else "", (at + 1) % 97, None, None, None) for at in range(97)]
        nodes += [("x" if at < 96 else "", 97 + (at + 1) % 103, None, None, None) for at in range(103)]
        self.assertEqual(parting_word(Book(nodes), 0, 97), "a" * 97)

    def test_random_books(self):
        dice = random.Random(34)
        for one, letters in random_books(35, 150):
            other = random_book(dice, 4, letters, 0.7, 0.7)
            words = [words_of(side, letters, reach_of(letters)) for side in (one, other)]
            for colors in (True, False):
                parted = [word for word in strings(letters, reach_of(letters))
                          if words[0].get(word) != words[1].get(word)
                          and (colors or (word in words[0]) != (word in words[1]))]
                found = first_difference(one, other, colors=colors)
                self.assertEqual(found, parted[0] if parted else None)
                self.assertIs(same_words(one, other, colors=colors), found is None)
                self.assertEqual(found is None and colors, colors and least(one) == least(other))
            left, right = dice.randrange(len(one)), dice.randrange(len(one))
            found = first_difference(begun_at(one, left), begun_at(one, right))
            self.assertEqual(parting_word(one, left, right), found)
