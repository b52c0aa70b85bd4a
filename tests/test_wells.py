"""Well-ordered lines, their ordinals, and the tuples that show that lines are not well-ordered."""

import random

from lexiconlines.books import Book
from lexiconlines.errors import NotWell
from lexiconlines.falls import is_fall, is_rise
from lexiconlines.keys import key_of, same_line
from lexiconlines.languages import coded, under
from lexiconlines.least import least
from lexiconlines.machines import book_of, filled, joined, mirrored, repeated, shuffled
from lexiconlines.ordinals import Ordinal
from lexiconlines.plain import term_of
from lexiconlines.terms import Term
from lexiconlines.wells import fall_paper, is_well, ordinal_of, rise_paper
from tests.support import EMPTY_WORD, NOTHING, ROW, STEP, TWO, LexiconCase, book, chain, grown, random_books, random_term, ring
from tests.test_ordinals import term_of_ordinal

# Terms and the texts of their ordinals.
ORDINALS = [
    ("0", "0"), ("x", "1"), ("xyz", "3"), ("(x)>", "w"), ("(xy)>", "w"), ("x(y)>", "w"), ("(x)>x", "w+1"), ("(x)>(y)>", "w*2"),
    ("((x)>)>", "w^2"), ("(x(y)>)>xx", "w^2+2"), ("((x)>yy)>", "w^2"), ("(x)>((y)>)>", "w^2"), ("((x)>)>(x)>z", "w^2+w+1"),
    ("(((x)>y)>)>((z)>x)>(z)>(x)>yx", "w^3+w^2+w*2+2"), ("xx(xx(xx)>xx)>xx", "w^2+2"),
]
NOT_WELL = ["<(x)", "{x}", "x<(y)", "(<(x))>", "({x,y}z)>", "<((x)>)", "xx{(x)>}", "((x)>{y})>x"]


def one_color(term):
    """The term with the same spots, all of one color."""
    return term.filled(y=Term.spot("x"), z=Term.spot("x"))


class WellTest(LexiconCase):

    def test_terms_and_books(self):
        for text, told in ORDINALS:
            term = Term.read(text)
            for line in (term, book_of(term), coded(book_of(term), ["a", "ba", "bb", "c"]), least(book_of(term)), under(book_of(term), "dac")):
                self.assertIs(is_well(line), True, text)
                self.assertEqual((ordinal_of(line).text(), ordinal_of(line).__class__), (told, Ordinal))
            self.assertEqual(ordinal_of(line=term), ordinal_of(book_of(term)))

    def test_lines_that_are_not(self):
        for text in NOT_WELL:
            term, one = Term.read(text), book_of(Term.read(text))
            self.assertEqual((is_well(term), is_well(line=one)), (False, False))
            self.check_error(NotWell, {"paper": None}, ordinal_of, term)
            with self.assertRaises(NotWell) as caught:
                ordinal_of(one)
            self.assertIs(is_fall(one, caught.exception.paper), True)

    def test_small_books(self):
        self.assertEqual([ordinal_of(one).text() for one in (NOTHING, EMPTY_WORD, ROW, book("- a0"), book("x a1", "- d0", "y"))],
                         ["0", "1", "w", "0", "w"])
        self.assertEqual([is_well(one) for one in (TWO, STEP, book("- a0 b1", "x"), ring(7, {3: "x"}), chain(200))],
                         [False, False, False, True, True])
        # Nodes to which nothing leads, and nodes without words, do no harm.
        self.assertEqual(ordinal_of(book("x a0 b2", "x a1 b1", "-")).text(), "w")

    def test_ordinals_tell_lines_of_one_color(self):
        dice = random.Random(91)
        met = {}
        while len(met) < 40:
            term = random_term(dice, dice.choice([2, 3, 4]), "xyz")
            if is_well(term):
                ordinal = ordinal_of(term)
                self.assertEqual(key_of(one_color(term)), key_of(term_of_ordinal(ordinal)))
                met[ordinal.text()] = True

    def test_random_books(self):
        found = [0, 0]
        for one, _ in random_books(92, 400, most_nodes=6):
            text = term_of(one).text()
            told = "<" not in text and "{" not in text
            self.assertIs(is_well(one), told)
            self.assertIs(is_well(term_of(one)), told)
            found[told] += 1
            if told:
                self.assertEqual(ordinal_of(one), ordinal_of(term_of(one)))
                self.assertEqual(key_of(one_color(term_of(one))), key_of(term_of_ordinal(ordinal_of(one))))
            else:
                self.check_error(NotWell, {"paper": fall_paper(one)}, ordinal_of, one)
        self.assertGreater(min(found), 100)

    def test_sums_and_repetitions(self):
        w = Ordinal((1, 1))
        wells = [one for one, _ in random_books(93, 60, most_nodes=4) if is_well(one)]
        for one, other in zip(wells, wells[1:]):
            self.assertEqual(ordinal_of(joined(one, other)), ordinal_of(one) + ordinal_of(other))
            self.assertEqual(ordinal_of(repeated(one)), ordinal_of(one) * w)
            self.assertIs(is_well(mirrored(one)), ordinal_of(one) < w)
            self.assertIs(is_well(shuffled(one)), not ordinal_of(one))
            whole = filled(one, x=other, y=other, z=other)
            self.assertEqual(ordinal_of(whole), ordinal_of(other) * ordinal_of(one))

    def test_great_exponents(self):
        self.assertEqual(ordinal_of(grown(100, lambda one, at: one.up())).text(), "w^100")
        nodes = [("", at + 1, at, None, None) for at in range(99)]
        self.assertEqual(ordinal_of(Book(nodes + [("x", None, None, None, None)])).text(), "w^99")
        self.assertEqual(ordinal_of(Book(nodes + [("x", 99, None, None, None)])).text(), "w^100")


class PaperTest(LexiconCase):

    def test_papers(self):
        for text in NOT_WELL + [text for text, _ in ORDINALS] + ["(x<(y))>", "<((x)>)z"]:
            one = book_of(Term.read(text))
            self.check_papers(one)
        for one in (TWO, STEP, ROW, NOTHING, EMPTY_WORD, ring(200, {3: "x"}), chain(200), book("- a0 b1", "x"), book("- a1 b0", "x")):
            self.check_papers(one)
        self.assertEqual((fall_paper(book=TWO), rise_paper(book=TWO)), (fall_paper(TWO), rise_paper(TWO)))

    def check_papers(self, one):
        text = term_of(one).text()
        fall, rise = fall_paper(one), rise_paper(one)
        self.assertIs(fall is None, "<" not in text and "{" not in text, text)
        self.assertIs(rise is None, ">" not in text and "{" not in text, text)
        if fall is not None:
            self.assertIs(is_fall(one, fall), True)
        if rise is not None:
            self.assertIs(is_rise(one, rise), True)

    def test_known_papers(self):
        self.assertEqual((fall_paper(book("- a0 b1", "x")), rise_paper(book("- a0 b1", "x"))), (("", "a", "b"), None))
        self.assertEqual((fall_paper(ROW), rise_paper(ROW)), (None, ("", "b", "a")))

    def test_random_books(self):
        for one, _ in random_books(94, 400, most_nodes=6):
            self.check_papers(one)

    def test_papers_behind_long_words(self):
        far = [("", at + 1, None, None, None) for at in range(60)]
        one = Book(far + [("", 60, 61, None, None), ("x", None, None, None, None)])
        self.assertEqual(fall_paper(one)[0], "a" * 60)
        self.check_papers(one)
        one = Book(far + [("x", 60, 60, None, None)])
        self.check_papers(one)
        self.assertGreaterEqual(min(len("".join(fall_paper(one))), len("".join(rise_paper(one)))), 60)

    def test_lines_that_are_the_same(self):
        one, other = book("x a0 b0"), book("x a0 b0 c0")
        self.assertTrue(same_line(one, other))
        self.assertEqual((is_well(one), is_well(other)), (False, False))
