"""Papers of each kind: right ones, and with each condition broken."""

import itertools

from lexiconlines.dense import dense_paper
from lexiconlines.errors import NoStep
from lexiconlines.formulas import depth_of
from lexiconlines.keys import Ladder, same_line
from lexiconlines.listing import by_length
from lexiconlines.machines import book_of
from lexiconlines.matching import Matching
from lexiconlines.papers import judged
from lexiconlines.parting import parting
from lexiconlines.pieces import piece
from lexiconlines.profiles import holds
from lexiconlines.spans import above, below
from lexiconlines.steps import first_word, next_word, previous_word
from lexiconlines.telling import telling_formula
from lexiconlines.terms import Term
from lexiconlines.wells import fall_paper, rise_paper
from tests.support import (
    ANY_VALUES, EMPTY_WORD, ENDING, NOTHING, ROW, STEP, TWO, LexiconCase, book, random_books, strings)

THREE = book("x a0 b0 c0")
HAS_X = ("some", "x", ("true",), ("true",))
KINDS = ["next", "fall", "rise", "dense", "differ", "mate", "part", "formula"]


class PaperCase(LexiconCase):

    def check(self, told, *papers, one=TWO, other=None):
        for paper in papers:
            self.assertEqual(judged(paper, one, other), told, paper)
            self.assertEqual(judged(paper, one=one, other=other if paper[0] in ("differ", "mate", "part", "formula") else TWO), told)


class FormTest(PaperCase):

    def test_values_of_all_kinds(self):
        for value in ANY_VALUES + ["next", ["next", "", "a"], ("Next", "", "a"), ("next ", "", "a"), (("next",), "", "a"), (1, "", "a"), ("",)]:
            if value != ("next", "", "a"):
                self.assertEqual(judged(value, TWO, TWO), "form", value)
        self.assertEqual(judged(paper=("next", "", "a"), one=TWO, other=None), "")

    def test_parts_too_few_or_too_many(self):
        right = [("next", "", "a"), ("fall", "a", "", "a", "b"), ("rise", None, "", "a", ""), ("dense", "", "a", "b", "b"), ("differ", ""),
                 ("mate", "", ""), ("part", 0, 0, ""), ("formula", HAS_X)]
        self.assertEqual([paper[0] for paper in right], KINDS)
        for paper in right:
            self.assertNotEqual(judged(paper, TWO, STEP), "form")
            for other in (paper[:-1], paper + ("a",), paper + (None,), list(paper), (paper[0],), (paper[0], paper[1:]), (paper,), paper[1:]):
                self.assertEqual(judged(other, TWO, STEP), "form", other)

    def test_words(self):
        for value in (None, 1, True, "e", "A", "x", "a ", ["a"], ("a",), TWO, "ab\n"):
            self.check("form", ("next", value, "a"), ("next", "a", value), ("fall", "a", value, "a", "b"), ("fall", "a", "", value, "b"),
                       ("fall", "a", "", "a", value), ("rise", "a", value, "a", ""), ("rise", "a", "", value, ""), ("rise", "a", "", "a", value),
                       ("dense", value, "a", "b", "b"), ("dense", "", value, "b", "b"), ("dense", "", "a", value, "b"),
                       ("dense", "", "a", "b", value), ("differ", value), ("mate", value, "a"), ("mate", "a", value), ("part", 0, 0, value),
                       one=TWO, other=STEP)
            if value is not None:
                self.check("form", ("fall", value, "", "a", "b"), ("rise", value, "", "a", ""))
        self.check("form", ("fall", "a", "", "", "b"), ("rise", "a", "", "", ""), ("fall", None, "", "", "b"))

    def test_numbers(self):
        for value in (-1, 61, True, False, None, "0", 10 ** 30, (0,), TWO):
            self.check("form", ("part", value, 0, ""), one=TWO, other=STEP)
        for value in (-1, 2, True, False, None, "0", 10 ** 30, (0,), TWO):
            self.check("form", ("part", 0, value, ""), one=TWO, other=STEP)

    def test_formulas(self):
        deep = HAS_X
        for _ in range(3):
            deep = ("some", "x", deep, ("true",))
        self.assertEqual(depth_of(deep), 4)
        long = ("true",)
        for _ in range(21):
            long = ("not", long)
        for value in (deep, long, list(HAS_X), ("true", "true"), None, "true", ("and", HAS_X), ("some", "w", ("true",), ("true",)), ("or",)):
            self.check("form", ("formula", value), one=TWO, other=STEP)


class NextTest(PaperCase):

    def test_papers(self):
        self.check("", ("next", "", "a"), ("next", "b", "ba"), ("next", "a" * 60, "a" * 61))
        self.check("word", ("next", "c", "a"), ("next", "a", "c"), ("next", "ac", "ac"))
        self.check("order", ("next", "a", "a"), ("next", "b", "a"), ("next", "a", ""))
        self.check("between", ("next", "", "b"), ("next", "a", "b"), ("next", "a", "aaa"), ("next", "", "aa"))
        self.check("", ("next", "b" * 50 + "a", "b" * 51 + "a"), one=ROW)
        self.check("word", ("next", "a", "ab"), ("next", "", "a"), one=ROW)
        self.check("word", ("next", "", "a"), one=NOTHING)

    def test_random_books(self):
        for one, _ in random_books(171, 60):
            words = list(by_length(one, 12))
            for low, high in itertools.product(words, repeat=2):
                try:
                    told = next_word(one, low) == high
                except NoStep:
                    told = False
                self.assertEqual(judged(("next", low, high), one), "" if told else "between" if low < high else "order")


class FallTest(PaperCase):

    def test_falls(self):
        one = book("x a1 b2", "- a1 b2", "x")
        self.check("", ("fall", "", "", "a", "b"), ("fall", "", "", "a", "ab"), ("fall", "", "aaa", "aa", "b"), one=one)
        self.check("between", ("fall", None, "", "a", "b"), one=one)
        self.check("between", ("fall", "b", "b", "a", "b"), ("fall", "ba", "ba", "a", "b"))
        self.check("word", ("fall", "b", "c", "a", "b"), ("fall", "b", "", "c", "b"), ("fall", "b", "b", "a", "c"))
        self.check("order", ("fall", "b", "b", "a", ""), ("fall", "b", "b", "b", "a"), ("fall", "b", "b", "a", "a"))
        self.check("above", ("fall", "bb", "b", "a", "b"), ("fall", "bab", "b", "a", "b"), ("fall", "b" * 50, "b", "a", "b"))
        self.check("between", ("fall", "a", "b", "a", "b"), ("fall", "", "b", "a", "b"), ("fall", None, "b", "a", "b"))
        # w need not be a word of the book, and may be long.
        self.check("", ("fall", "", "", "a", "b"), ("fall", "a" * 60, "", "a", "b"), one=book("- a0 b1", "x"))
        self.check("", ("fall", None, "", "a", "b"), one=book("- a0 b1", "x"))
        self.check("above", ("fall", "ab", "", "a", "b"), ("fall", "d", "", "a", "b"), one=book("- a0 b1", "x"))

    def test_rises(self):
        self.check("", ("rise", None, "", "b", ""), ("rise", "b", "a", "b", ""), ("rise", "c", "", "b", "a"))
        self.check("word", ("rise", None, "c", "b", ""), ("rise", None, "", "c", ""), ("rise", None, "", "b", "c"))
        self.check("order", ("rise", None, "", "a", "b"), ("rise", "b", "b", "a", "b"))
        self.check("below", ("rise", "bbb", "", "b", ""), ("rise", "", "", "b", ""), ("rise", "ab", "a", "b", ""))
        self.check("between", ("rise", "ba", "a", "b", ""), ("rise", None, "a", "b", ""), ("rise", "d", "a", "b", "a"))
        self.check("", ("rise", None, "", "b", "a"), ("rise", "d" * 50, "", "b", "a"), one=ROW)

    def test_steps_that_are_missing(self):
        for one, _ in random_books(172, 150):
            for word in [None, *by_length(one, 8)]:
                for step, kind in ((previous_word, "rise"), (next_word, "fall")):
                    try:
                        first_word(one) if word is None else step(one, word)
                    except NoStep as error:
                        kind = "fall" if word is None else kind
                        if error.paper is not None:
                            self.check("", (kind, word, *error.paper), one=one)

    def test_conditions_one_by_one(self):
        for one, letters in random_books(173, 25, most_nodes=4):
            words = list(strings(letters, 2))
            low_words = set(by_length(one, 200))
            for x, y, z in itertools.product(words, repeat=3):
                if y == "":
                    continue
                row = [x + y * many + z for many in range(5)]
                is_row = all(word in one for word in row + [x + y * many + z for many in range(5, 12)])
                for word in [None, "", "a", "ab", "b"]:
                    found = judged(("fall", word, x, y, z), one), judged(("rise", word, x, y, z), one)
                    if not is_row:
                        self.assertEqual(found, ("word", "word"))
                        continue
                    falls, rises = y + z < z, z < y + z
                    self.assertEqual((found[0] == "order", found[1] == "order"), (not falls, not rises))
                    far = x + y * 9 + z
                    if falls:
                        self.assertIs(found[0] == "above", word is not None and not word < far)
                        if found[0] == "":
                            self.assertFalse([it for it in low_words if (word is None or it > word) and it < far and not it.startswith(x + y * 3)])
                    if rises:
                        self.assertIs(found[1] == "below", word is not None and not word > far)
                        if found[1] == "":
                            self.assertFalse([it for it in low_words if (word is None or it < word) and it > far and not it.startswith(x + y * 3)])


class OneBookTest(PaperCase):

    def test_wells(self):
        for one, _ in random_books(174, 60):
            for paper, kind in ((fall_paper(one), "fall"), (rise_paper(one), "rise")):
                if paper is not None:
                    self.assertIn(judged((kind, None, *paper), one), ("", "between"))

    def test_dense(self):
        self.check("", ("dense", "", "a", "b", "b"), ("dense", "ab" * 30, "aa", "bab", "ab"))
        self.check("word", ("dense", "c", "a", "b", "b"), ("dense", "", "c", "b", "b"), ("dense", "", "a", "c", "b"), ("dense", "", "a", "b", "c"),
                   ("dense", "", "b", "c", "a"))
        self.check("order", ("dense", "", "a", "b", "a"), ("dense", "", "a", "b", "ab"), ("dense", "", "b", "a", "b"), ("dense", "", "a", "b", "bb"),
                   ("dense", "", "a", "a", "b"), ("dense", "", "", "", ""), ("dense", "", "", "b", "b"))
        self.check("word", ("dense", "", "a", "b", "b"), ("dense", "", "a", "b", ""), one=ROW)
        for one, _ in random_books(175, 100):
            if dense_paper(one) is not None:
                self.check("", ("dense", *dense_paper(one)), one=one)


class TwoBooksTest(PaperCase):

    def test_differ(self):
        one, other = book("x a1 b2", "y", "z"), book("x a1 c1", "z")
        self.check("", ("differ", "a"), ("differ", "b"), ("differ", "c"), one=one, other=other)
        self.check("color", ("differ", ""), one=one, other=other)
        self.check("word", ("differ", "d"), ("differ", "aa"), ("differ", "a" * 80), one=one, other=other)
        self.check("", ("differ", "b" * 80), one=TWO, other=ROW)

    def test_mates(self):
        self.check("", ("mate", "b", "b"), ("mate", "b", "c"), ("mate", "", ""), ("mate", "abab", "ccb"), one=TWO, other=THREE)
        self.check("word", ("mate", "c", "b"), ("mate", "b", "d"), ("mate", "d", "d"), one=TWO, other=THREE)
        self.check("below", ("mate", "", "b"), ("mate", "a", "aa"), one=TWO, other=THREE)
        self.check("color", ("mate", "b", ""), ("mate", "b", "a"), one=ENDING, other=book("x a1", "x"))
        self.check("above", ("mate", "", ""), one=book("x a1", "y"), other=book("x a1", "x"))
        self.check("below", ("mate", "", "b"), one=book("x"), other=book("- a1 b1 c1", "x"))
        self.check("above", ("mate", "", "a"), one=book("x"), other=book("- a1 b1 c1", "x"))
        self.check("below", ("mate", "a", ""), one=book("x a1", "x"), other=book("x a1", "x"))
        # Books whose lines differ may have mates, too: here what is below and above the y is the same.
        self.check("", ("mate", "a", "b"), one=book("x a1", "y"), other=book("- a1 b2", "x", "y"))

    def test_mates_of_matchings(self):
        books = [one for one, _ in random_books(177, 40, most_nodes=4)]
        for one, other in zip(books, books[1:]):
            words = list(by_length(one, 6))
            if same_line(one, other):
                matching = Matching(one, other)
                for word in words:
                    self.check("", ("mate", word, Matching(one, other).mate(0, word)), one=one, other=other)
                    matching.mate(0, word)
            for word, mate in itertools.product(words[:3], list(by_length(other, 4))):
                same = same_line(below(one, word), below(other, mate)), same_line(above(one, word), above(other, mate))
                told = "color" if one.color_of(word) != other.color_of(mate) else "below" if not same[0] else "above" if not same[1] else ""
                self.assertEqual(judged(("mate", word, mate), one, other), told)

    def test_parts(self):
        level, side, sign, word = parting(book("x a0"), TWO)
        self.check("", ("part", level, side, word), one=book("x a0"), other=TWO)
        self.assertEqual((level, side, sign, word), (2, 1, "[{[(x)>]}]", "b"))
        self.check("sign", ("part", 2, 0, ""), ("part", 1, 1, "b"), ("part", 0, 1, "b"), ("part", 2, 1, ""), one=book("x a0"), other=TWO)
        self.check("word", ("part", 2, 0, "b"), ("part", 2, 1, "c"), ("part", 60, 0, "ab"), one=book("x a0"), other=TWO)
        self.check("", ("part", 60, 0, "a"), ("part", 60, 1, "bbb"), ("part", 3, 0, "aa"), one=book("x a0"), other=TWO)
        self.check("", ("part", 0, 0, "a"), ("part", 0, 1, "b"), one=book("- a1", "x"), other=book("- b1", "y"))

    def test_parts_of_random_books(self):
        books = [one for one, _ in random_books(178, 30, most_nodes=4)]
        for one, other in zip(books, books[1:]):
            found = parting(one, other)
            if found is not None:
                self.check("", ("part", found[0], found[1], found[3]), one=one, other=other)
            for level in (0, 1, 2, 3, 60):
                for side, word in [(0, word) for word in by_length(one, 3)] + [(1, word) for word in by_length(other, 3)]:
                    sign = piece((one, other)[side], word, level)
                    told = "sign" if sign in Ladder((other, one)[side]).signs_at(level) else ""
                    self.assertEqual(judged(("part", level, side, word), one, other), told)

    def test_formulas(self):
        self.check("", ("formula", ("not", HAS_X)), one=EMPTY_WORD, other=TWO)
        self.check("first", ("formula", HAS_X), ("formula", ("false",)), one=EMPTY_WORD, other=TWO)
        self.check("second", ("formula", ("true",)), ("formula", ("or", HAS_X, ("true",))), one=EMPTY_WORD, other=TWO)
        self.check("first", ("formula", ("false",)), one=TWO, other=TWO)
        books = [one for one, _ in random_books(179, 40, most_nodes=4)] + [book_of(Term.read(text)) for text in ("xxx", "xxxx", "<(x)", "{x}")]
        for one, other in zip(books, books[1:] + [ROW]):
            formula = telling_formula(one, other)
            if formula is not None:
                self.check("", ("formula", formula), one=one, other=other)
                self.assertEqual(judged(("formula", formula), other, one), "first")
                self.assertEqual(judged(("formula", ("not", formula)), one, other), "first")
                self.assertEqual(judged(("formula", ("or", formula, ("not", formula))), one, other), "second")
                self.assertTrue(holds(one, formula))

    def test_two_conditions_broken(self):
        self.check("word", ("next", "c", ""), ("fall", "d", "c", "b", "a"), ("dense", "c", "b", "a", "b"))
        self.check("order", ("fall", "d", "", "b", "a"), ("rise", "", "", "a", "b"))
        self.check("color", ("mate", "", "a"), one=book("x a1", "y"), other=book("x a1", "y"))
        self.check("below", ("mate", "a", ""), one=book("x a1", "x"), other=book("x b1 c1", "x"))
        self.check("form", ("next", "e", ""), ("part", 61, 2, "e"), ("fall", "", "", "", "e"), one=TWO, other=TWO)
        self.check("word", ("part", 0, 0, "c"), one=TWO, other=TWO)
