"""Parting: at which level, by which sign and which word two lines differ."""

from lexiconlines.books import Book
from lexiconlines.errors import TooMany
from lexiconlines.keys import Ladder, same_line
from lexiconlines.languages import coded
from lexiconlines.listing import by_length
from lexiconlines.machines import book_of
from lexiconlines.parting import parting
from lexiconlines.pieces import piece
from lexiconlines.terms import Term
from tests.support import EMPTY_WORD, NOTHING, ROW, STEP, TWO, LexiconCase, book, random_books


def deep(many):
    """All strings of a and b; behind so many b stand not endlessly many words in a row, but two alone."""
    nodes = [("x", many, at + 1, None, None) for at in range(many - 1)]
    nodes += [("x", many, many + 1, None, None), ("x", many, many, None, None), ("x", many + 2, None, None, None)]
    return Book(nodes + [("x", None, None, None, None)])


def behind_others(many):
    """A book with a single y, the first word of 20 letters, behind 4988 shorter words of x, and so many more."""
    nodes = [("", 20, 1, None, None)]
    for at in range(1, 19):
        nodes.append(("x" if at <= many else "", None, at + 1 if at < 18 else None, None, 19 if at in (7, 10, 11, 12) else None))
    nodes.append(("x", 19, 19, None, None))
    nodes += [("", 21 + at, None, None, None) for at in range(19)]
    return Book(nodes + [("y", None, None, None, None)])


def told_parting(one, other):
    """The same by the words of the document, with the methods of ladders alone."""
    ladders = Ladder(one), Ladder(other)
    for level in range(61):
        signs = [set(ladder.signs_at(level)) for ladder in ladders]
        if signs[0] != signs[1]:
            sign = min(signs[0] ^ signs[1])
            side = 0 if sign in signs[0] else 1
            words = by_length((one, other)[side], 5000)
            return (level, side, sign, next(word for word in words if piece((one, other)[side], word, level) == sign))
    return None


class PartingTest(LexiconCase):

    def test_examples(self):
        self.assertEqual(parting(book("x a0"), book("x a0 b0")), (2, 1, "[{[(x)>]}]", "b"))
        self.assertEqual(parting(one=TWO, other=book("x a0")), (2, 0, "[{[(x)>]}]", "b"))

    def test_level_zero(self):
        self.assertEqual(parting(book("x a1", "y"), book("x a1", "x")), (0, 0, "y", "a"))
        self.assertEqual(parting(book("x a1", "x"), book("x a1", "y")), (0, 1, "y", "a"))
        self.assertEqual(parting(book("z a1", "y"), book("x a1", "x")), (0, 1, "x", ""))
        self.assertEqual(parting(EMPTY_WORD, book("y a1 b2", "x", "z a1")), (0, 1, "x", "a"))

    def test_books_without_words(self):
        self.assertEqual(parting(NOTHING, book("- b1", "z")), (0, 1, "z", "b"))
        self.assertEqual(parting(TWO, NOTHING), (0, 0, "x", ""))
        self.assertIsNone(parting(NOTHING, book("- a0")))

    def test_higher_levels(self):
        self.assertEqual(parting(book("x"), book("x a1", "x")), (1, 1, "[xx]", ""))
        self.assertEqual(parting(book("x a1", "x"), book("x")), (1, 0, "[xx]", ""))
        self.assertEqual(parting(STEP, ROW), (3, 0, "[<([(x)>])]", "b"))
        self.assertEqual(parting(ROW, STEP), (3, 1, "[<([(x)>])]", "b"))
        two, three = book_of(Term.read("(x)>(x)>")), book_of(Term.read("(x)>(x)>(x)>"))
        level, side, sign, word = parting(two, three)
        self.assertEqual((level, side, sign), (3, 1, "[[(x)>][(x)>][(x)>]]"))
        self.assertEqual(piece(three, word, 3), sign)

    def test_lines_that_are_the_same(self):
        self.assertIsNone(parting(TWO, book("x a0 b0 c0")))
        self.assertIsNone(parting(ROW, book("x a0")))
        self.assertIsNone(parting(STEP, coded(STEP, ["a", "bb", "bc", "d"])))

    def test_far_words(self):
        for many in (3, 6, 9, 11):
            word = "b" * many
            self.assertEqual(parting(deep(many), TWO), (1, 0, "[xx]", word))
            self.assertEqual(parting(TWO, deep(many)), (1, 1, "[xx]", word))
        self.check_error(TooMany, {"count": 5000}, parting, deep(12), TWO)
        self.check_error(TooMany, {"count": 5000}, parting, TWO, deep(30))

    def test_the_last_word_that_is_looked_at(self):
        y_word = "a" * 20
        rows = behind_others(11)
        self.assertEqual(list(by_length(rows, 5000))[-1], y_word)
        self.assertEqual(parting(rows, ROW), (0, 0, "y", y_word))
        self.assertEqual(parting(ROW, rows), (0, 1, "y", y_word))
        rows = behind_others(12)
        self.assertEqual(list(by_length(rows, 5001))[-1], y_word)
        self.check_error(TooMany, {"count": 5000}, parting, rows, ROW)
        self.check_error(TooMany, {"count": 5000}, parting, ROW, rows)

    def test_random_books(self):
        books = [one for one, _ in random_books(261, 60, most_nodes=4)]
        met = {}
        for at, one in enumerate(books):
            for other in books[at + 1:at + 12]:
                found = parting(one, other)
                self.assertIs(found is None, same_line(one, other))
                self.assertEqual(found, told_parting(one, other))
                if found is not None:
                    self.assertEqual(parting(other, one), (found[0], 1 - found[1], *found[2:]))
                    met[found[0]] = True
        self.assertGreaterEqual(len(met), 3)
