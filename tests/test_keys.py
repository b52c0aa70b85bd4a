"""Ladders, keys and ranks; lines that are the same in many ways, and lines that are not."""

import itertools
import random

from lexiconlines.books import Book
from lexiconlines.dense import is_dense
from lexiconlines.errors import HasDense, InvalidNumber, TooMany
from lexiconlines.evens import second_folding
from lexiconlines.folding import first_folding
from lexiconlines.keys import Ladder, key_of, rank_of, same_line
from lexiconlines.languages import coded, recolored, under
from lexiconlines.least import least
from lexiconlines.machines import book_of, filled, joined, mirrored, repeated, shuffled
from lexiconlines.plain import term_of
from lexiconlines.rows import is_sign
from lexiconlines.signs import expansion
from lexiconlines.terms import Term, mirrored_sign, sign_term
from tests.formulas_oracle import profile
from tests.support import (
    ANY_VALUES, EMPTY_WORD, NOTHING, ROW, STEP, TWO, LexiconCase, book, chain, grown, random_books, random_term, retold)

CODE = ["a", "bab", "bb", "da"]


def term(text):
    return Term.read(text)


class LadderTest(LexiconCase):

    def test_example(self):
        ladder = Ladder(STEP)
        self.assertEqual(list(ladder.levels()), ["(x)><((x)>)", "[(x)>]<([(x)>])", "[(x)>]<([(x)>])", "[(x)>][<([(x)>])]",
                                                 "[(x)>][<([(x)>])]", "[[(x)>][<([(x)>])]]"])
        self.assertEqual((ladder.end, ladder.key, len(ladder)), (5, "[[(x)>][<([(x)>])]]", 6))
        self.assertEqual([ladder.signs_at(n) for n in (0, 1, 3, 5, 6, 60)],
                         [["x"], ["[(x)>]"], ["[(x)>]", "[<([(x)>])]"], [ladder.key], [ladder.key], [ladder.key]])
        self.assertEqual(repr(ladder), "Ladder([[(x)>][<([(x)>])]])")

    def test_lines_of_one_spot_or_none(self):
        for line, key in ((NOTHING, "0"), (Term.empty(), "0"), (EMPTY_WORD, "y"), (term("z"), "z"), (book("- a0"), "0"),
                          (sign_term("[(x)>]"), "[(x)>]")):
            ladder = Ladder(line=line)
            self.assertEqual((ladder.end, ladder.key, len(ladder), list(ladder.levels())), (0, key, 1, [key]))
            for n in (0, 1, 60):
                self.assertEqual((ladder.term_at(n=n).text(), ladder.signs_at(n=n)), (key, [] if key == "0" else [key]))
        self.assertEqual(repr(Ladder(NOTHING)), "Ladder(0)")

    def test_levels_are_the_foldings_in_turn(self):
        dice = random.Random(241)
        for _ in range(200):
            one = random_term(dice, 4, "xyz")
            ladder = Ladder(one)
            told = one
            for n, text in enumerate(ladder.levels()):
                self.assertEqual((text, ladder.term_at(n)), (told.text(), told))
                self.assertEqual(ladder.signs_at(n), told.signs())
                self.assertIs(told.is_empty or told.kind == "sign", n == ladder.end)
                told = second_folding(told) if n % 2 else first_folding(told)
            self.assertEqual(ladder.term_at(ladder.end + 1), ladder.term_at(ladder.end))
            self.assertLessEqual(ladder.end, 2 * one.height + 1)
            self.assertEqual(len(ladder), ladder.end + 1)
            for n in range(0, ladder.end, 2):
                self.assertTrue(ladder.term_at(n).height == 0 or ladder.term_at(n + 2).height < ladder.term_at(n).height)

    def test_books_begin_with_their_plain_terms(self):
        for one, _ in random_books(242, 100):
            self.assertEqual(Ladder(one).term_at(0), term_of(one))
            self.assertEqual(list(Ladder(one).levels()), list(Ladder(term_of(one)).levels()))

    def test_numbers(self):
        ladder = Ladder(STEP)
        for value in [61, -1, 10 ** 30, True, False] + [value for value in ANY_VALUES if value.__class__ is not int]:
            self.check_error(InvalidNumber, {"number": value}, ladder.term_at, value)
            self.check_error(InvalidNumber, {"number": value}, ladder.signs_at, value)

    def test_levels_beyond_sixty(self):
        ladder = Ladder(grown(60, lambda one, at: Term.shuffle(one + term("y"))))
        self.assertEqual(ladder.end, 120)
        self.assertEqual(len(list(ladder.levels())), 121)
        self.assertEqual(ladder.term_at(60).kind, "shuffle")
        self.assertEqual(ladder.key, list(ladder.levels())[-1])

    def test_too_many_items(self):
        for one in (grown(12, lambda one, at: one.up()), grown(200, lambda one, at: one.down() + one.up() if at < 3 else one.up())):
            for call in (Ladder, key_of, rank_of, lambda line: same_line(TWO, line), lambda line: same_line(line, TWO)):
                self.check_error(TooMany, {"count": 4000}, call, one)
        # Level 1 and level 2 are short enough, level 3 is not.
        late = grown(14, lambda one, at: (term("<(x)") + one + term("(x)>")).up())
        self.assertLess(len(second_folding(first_folding(late))), 100)
        self.check_error(TooMany, {"count": 4000}, first_folding, second_folding(first_folding(late)))
        self.check_error(TooMany, {"count": 4000}, Ladder, late)
        nodes = [("", at + 1, at + 1, None, None) for at in range(12)] + [("x", None, None, None, None)]
        for call in (Ladder, key_of, rank_of):
            self.check_error(TooMany, {"count": 4000}, call, Book(nodes))

    def test_ladders_never_change(self):
        ladder = Ladder(TWO)
        ladder.signs_at(1).clear()
        self.assertEqual(ladder.signs_at(1), Ladder(TWO).signs_at(1))


class KeysTest(LexiconCase):

    def test_keys(self):
        for text, key in [("(x)>{(x)>}", "[[(x)>][{[(x)>]}]]"), ("xyx", "[xyx]"), ("(x)>", "[(x)>]"), ("<(xy)(xy)>", "[<(xy)>]"),
                          ("{x}", "[{x}]"), ("{x}{x}", "[{x}]"), ("({x}x)>", "[{x}]"), ("((x)>)>", "[([(x)>])>]"),
                          ("(x)>(x)>", "[[(x)>][(x)>]]"), ("x{x}", "[x[{x}]]"), ("{x}y{x}", "[[{x}]y[{x}]]")]:
            self.assertEqual(key_of(term(text)), key)
            self.assertEqual(key_of(line=book_of(term(text))), key)
        self.assertEqual((key_of(TWO), key_of(STEP)), ("[[(x)>][{[(x)>]}]]", "[[(x)>][<([(x)>])]]"))
        self.assertEqual(key_of(sign_term("[xy]").up()), "[([xy])>]")

    def test_same_lines(self):
        three = book("x a0 b0 c0")
        self.assertIs(same_line(TWO, three), True)
        self.assertIs(same_line(one=three, other=term("(x)>{(x)>}")), True)
        self.assertIs(same_line(term("(x)>"), ROW), True)
        self.assertIs(same_line(TWO, STEP), False)
        self.assertIs(same_line(NOTHING, Term.empty()), True)
        self.assertIs(same_line(NOTHING, EMPTY_WORD), False)
        # The order of a dense line with colors does not tell one word from another, but ends do.
        self.assertIs(same_line(term("{x,y}"), term("{x,y}x{x,y}y{x,y}")), True)
        self.assertIs(same_line(term("{x,y}"), term("x{x,y}")), False)
        self.assertIs(same_line(term("(x)>"), term("(x)><(x)(x)>")), False)

    def test_terms_written_otherwise(self):
        dice = random.Random(243)
        for _ in range(400):
            one = random_term(dice, 4, dice.choice(["x", "xy", "xyz"]))
            other = retold(dice, retold(dice, one))
            if len(other) < 2000:
                self.assertEqual(key_of(other), key_of(one), (one, other))
                self.assertEqual(key_of(-other), mirrored_sign(key_of(one)))

    def test_lines_that_a_formula_tells_apart(self):
        dice = random.Random(244)
        met = {}
        for _ in range(500):
            one = random_term(dice, 3, dice.choice(["x", "xy"]))
            known = met.setdefault(key_of(one), one)
            self.assertEqual(profile(one, 2), profile(known, 2))
        self.assertGreater(len({profile(one, 2) for one in met.values()}), 60)

    def test_all_short_terms(self):
        """Terms with unlike keys are told apart by formulas, or by one of the few cases that formulas cannot tell."""
        texts = ["x", "xx", "(x)>", "<(x)", "{x}", "x(x)>", "(x)><(x)", "<(x)(x)>", "x{x}", "{x}x", "x{x}x", "{x}{x}", "{x}x{x}",
                 "{xx}", "{(x)>}", "{x,xx}", "{x}xx{x}", "(x)>x", "x<(x)", "(x)>{x}", "({x}x)>", "(x{x})>", "<({x}x)", "{<(x)(x)>}"]
        for one, other in itertools.combinations(texts, 2):
            alike = key_of(term(one)) == key_of(term(other))
            if profile(term(one), 3) != profile(term(other), 3):
                self.assertFalse(alike, (one, other))
        for one, other in [("(x)>", "x(x)>"), ("{x}", "{x}{x}"), ("{x}", "{x}x{x}"), ("{x}", "({x}x)>"), ("x{x}", "(x{x})>"),
                           ("<({x}x)", "{x}x")]:
            self.assertEqual(key_of(term(one)), key_of(term(other)))

    def test_expansions_of_keys(self):
        dice = random.Random(245)
        for _ in range(200):
            one = random_term(dice, 4, "xyz")
            key = key_of(one)
            self.assertIs(is_sign(key), True)
            self.assertEqual(key_of(expansion(key)), key)
            self.assertEqual(key_of(sign_term(key)), key)

    def test_keys_of_high_terms(self):
        for step in (lambda one, at: Term.shuffle(one + term("y")), lambda one, at: one.up() if at % 2 else one.down(),
                     lambda one, at: Term.shuffle(one, term("xy"))):
            key = key_of(grown(150, step))
            self.assertIs(is_sign(key), True)
            self.assertEqual(key_of(expansion(key)), key)
            self.assertEqual(key_of(-expansion(key)), mirrored_sign(key))


class BooksTest(LexiconCase):

    def test_books_of_one_line(self):
        for one, _ in random_books(246, 150):
            key = key_of(one)
            twice = Book([(row[0], *[None if child is None else child + len(one) * (at % 2) for at, child in enumerate(row[1:])])
                          for row in one.nodes()] + [(row[0], *row[1:]) for row in one.nodes()])
            for other in (least(one), twice, coded(one, CODE), under(one, "dab"), mirrored(mirrored(one)), filled(one), joined(one),
                          joined(NOTHING, one, NOTHING), filled(one, x=book("x"), y=book("- a1", "y")), term_of(one)):
                self.assertEqual(key_of(other), key)
                self.assertIs(same_line(other, one), True)

    def test_operations_on_books_and_terms(self):
        books = [one for one, _ in random_books(247, 40, most_nodes=3)]
        for one, other in zip(books, books[1:] + books[:1]):
            left, right = term_of(one), term_of(other)
            self.assertEqual(key_of(joined(one, other)), key_of(left + right))
            self.assertEqual(key_of(repeated(one)), key_of(left.up()))
            self.assertEqual(key_of(repeated(one, down=True)), key_of(left.down()))
            self.assertEqual(key_of(shuffled(one, other)), key_of(Term.shuffle(left, right)))
            self.assertEqual(key_of(mirrored(one)), key_of(-left))
            self.assertEqual(key_of(filled(one, x=other)), key_of(left.filled(x=right)))
            self.assertEqual(key_of(recolored(one, x="y")), key_of(left.filled(x=term("y"))))


class RankTest(LexiconCase):

    def test_ranks(self):
        for text, rank in [("0", 0), ("x", 0), ("xx", 1), ("xyxyx", 1), ("(x)>", 1), ("<(x)(y)>", 1), ("(x)>(x)>", 2), ("((x)>)>", 2),
                           ("(x)><((x)>)", 3), ("(x)>y", 2), ("(((x)>)>)>", 3), ("<((x)>)(<(x))>", 2), ("((x)>)>(x)>", 3), ("((x)>)>((x)>)>", 3)]:
            self.assertEqual(rank_of(term(text)), rank, text)
            self.assertEqual(rank_of(book_of(term(text))), rank, text)
        self.assertEqual((rank_of(line=NOTHING), rank_of(EMPTY_WORD), rank_of(chain(200)), rank_of(ROW)), (0, 0, 0, 1))
        self.assertEqual(rank_of(grown(6, lambda one, at: one.up())), 6)

    def test_lines_with_a_dense_part(self):
        for line in (TWO, joined(ROW, TWO), Book([("", at + 1, at + 1, None, None) for at in range(40)] + [("x", 40, 40, None, None)])):
            with self.assertRaises(HasDense) as caught:
                rank_of(line)
            self.assertIs(is_dense(line, caught.exception.paper), True)
        for text in ("{x}", "(x)>{x}", "<((y{xy})>)"):
            self.check_error(HasDense, {"paper": None}, rank_of, term(text))
        self.check_error(HasDense, {"paper": None}, rank_of, grown(200, lambda one, at: one.up() if at else Term.shuffle(one)))
