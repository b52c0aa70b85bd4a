"""Triples of words, and the first words that show them."""

from lexiconlines.books import Book
from lexiconlines.errors import InvalidWord, NoTriple, NoWord, TooDeep, TooMany
from lexiconlines.languages import under
from lexiconlines.listing import by_length
from lexiconlines.machines import book_of
from lexiconlines.profiles import profile_of
from lexiconlines.spans import above, below
from lexiconlines.steps import last_word
from lexiconlines.terms import Term
from lexiconlines.triples import shown, triple_of
from tests.support import (
    ANY_VALUES, EMPTY_WORD, ENDING, NOTHING, ROW, STEP, TWO, LexiconCase, book, late_book, random_books)

X1 = (("x", (), ()),)
WRONG_DEPTHS = [0, 4, -1, 10 ** 30, True, False, None, "1", (1,), [2], TWO]


class TripleTest(LexiconCase):

    def test_known_triples(self):
        self.assertEqual([triple_of(ROW, "a", 1), triple_of(ROW, "a", 2), triple_of(ROW, "ba", 2)],
                         [("x", (), ()), ("x", (), X1), ("x", X1, X1)])
        self.assertEqual(triple_of(book=EMPTY_WORD, word="", depth=3), ("y", (), ()))
        self.assertEqual([triple_of(STEP, word, 2) for word in ("", "b")], [("x", (), X1), ("x", X1, X1)])
        self.assertEqual(triple_of(ENDING, last_word(ENDING), 2), ("y", X1, ()))
        self.assertEqual([triple_of(book("x a1", "y b2", "x"), word, 2) for word in ("", "a", "ab")],
                         [("x", (), (("x", (), ()), ("y", (), ()))), ("y", X1, X1), ("x", (("x", (), ()), ("y", (), ())), ())])

    def test_random_books(self):
        for one, _ in random_books(131, 60, most_nodes=5):
            for depth in (1, 2, 3):
                profile = profile_of(one, depth)
                met = {}
                for word in by_length(one, 40):
                    triple = triple_of(one, word, depth)
                    self.assertIn(triple, profile)
                    met.setdefault(triple, word)
                for word in list(by_length(one, 6)):
                    self.assertEqual(triple_of(one, word, depth), (one.color_of(word), profile_of(below(one, word), depth - 1),
                                                                   profile_of(above(one, word), depth - 1)))
                # The first word that has a triple, also where many have it.
                for triple in profile:
                    word = shown(one, triple, depth)
                    self.assertEqual((triple_of(one, word, depth), met.get(triple, word)), (triple, word))

    def test_long_words(self):
        word = "b" * 150 + "a"
        self.assertEqual([triple_of(ROW, word, depth) for depth in (1, 2)], [("x", (), ()), ("x", X1, X1)])
        self.assertEqual(triple_of(ROW, word, 3), triple_of(ROW, "bbba", 3))
        self.assertNotEqual(triple_of(ROW, "bba", 3), triple_of(ROW, "bbba", 3))
        self.assertEqual(shown(ROW, triple_of(ROW, word, 3), 3), "bbba")
        far = under(TWO, "d" * 40)
        self.assertEqual(triple_of(far, "d" * 40 + "b", 3), triple_of(TWO, "b", 3))

    def test_depths(self):
        for value in WRONG_DEPTHS:
            self.check_error(TooDeep, {"depth": value}, triple_of, TWO, "a", value)
            self.check_error(TooDeep, {"depth": value}, triple_of, TWO, "e", value)
            self.check_error(TooDeep, {"depth": value}, shown, TWO, ("x", (), ()), value)
            self.check_error(TooDeep, {"depth": value}, shown, TWO, None, value)

    def test_words(self):
        for value in [None, 1, True, "e", "x", "a ", ["a"], ("a",), TWO]:
            self.check_error(InvalidWord, {"word": value}, triple_of, TWO, value, 2)
        self.check_error(NoWord, {"word": "abc", "place": 2}, triple_of, TWO, "abc", 2)
        self.check_error(NoWord, {"word": "", "place": 0}, triple_of, NOTHING, "", 3)


class ShownTest(LexiconCase):

    def test_first_words(self):
        self.assertEqual([shown(ROW, triple, 2) for triple in profile_of(ROW, 2)], ["a", "ba"])
        self.assertEqual(shown(book=TWO, triple=("x", (), ()), depth=1), "")
        self.assertEqual([shown(TWO, triple, 2) for triple in profile_of(TWO, 2)], ["", "a"])
        even = book_of(Term.read("{x,y}"))
        self.assertEqual(sorted(shown(even, triple, 3) for triple in profile_of(even, 3)),
                         sorted(next(word for word in by_length(even, 9) if even.color_of(word) == color) for color in "xy"))

    def test_other_values(self):
        triple = ("x", X1, X1)
        self.assertEqual(shown(ROW, triple, 2), "ba")
        for value in ANY_VALUES + [
            list(triple), ("y", X1, X1), ("x", X1), ("x", X1, X1, X1), ("x", list(X1), X1), ("x", X1, [("x", (), ())]), ("x", X1, ()),
            ("x", (), ()), ("x", X1, (("x", [], ()),)), (X1, X1, "x"), ("x", X1, (("y", (), ()),)), (triple,), X1, ("x", None, X1), ("", X1, X1),
        ]:
            self.check_error(NoTriple, {"triple": value}, shown, ROW, value, 2)
            self.check_error(NoTriple, {"triple": value}, shown, NOTHING, value, 2)
        self.check_error(NoTriple, {"triple": triple}, shown, ROW, triple, 3)
        # A triple of another book.
        other = triple_of(ENDING, last_word(ENDING), 2)
        self.check_error(NoTriple, {"triple": other}, shown, ROW, other, 2)
        self.check_error(NoTriple, {"triple": triple_of(TWO, "b", 3)}, shown, ROW, triple_of(TWO, "b", 3), 3)

    def test_words_behind_many_others(self):
        last = "d" + "a" * 46
        for depth in (1, 2, 3):
            fits, late = late_book(4999), late_book(5000)
            triple = triple_of(late, last, depth)
            self.assertEqual(triple, triple_of(fits, last, depth))
            self.assertEqual(shown(fits, triple, depth), last)
            self.check_error(TooMany, {"count": 5000}, shown, late, triple, depth)

    def test_first_of_many(self):
        # The last words of a row downward come first in short order.
        late = late_book(4998)
        self.assertEqual([shown(late, triple, 2) for triple in profile_of(late, 2)], ["c", "caaaaa", "d" + "a" * 46])
        nodes = [("", at + 1, at + 1, at + 1, at + 1) for at in range(5)] + [("x", None, None, None, 6), ("y", None, None, None, None)]
        one = Book(nodes)
        self.assertEqual([shown(one, triple, 1) for triple in profile_of(one, 1)], ["aaaaa", "aaaaad"])
