"""Conventions that hold for all functions: arguments, results and repeated calls."""

import random

from lexiconlines.alllines import all_profiles, is_shut, model, term_with
from lexiconlines.bench import Bench
from lexiconlines.benchtexts import replayed
from lexiconlines.books import Book
from lexiconlines.classes import class_of, classes
from lexiconlines.deeds import is_deed
from lexiconlines.dense import dense_paper
from lexiconlines.duels import Duel
from lexiconlines.errors import InvalidNumber
from lexiconlines.evens import second_folding
from lexiconlines.falls import falls_to, is_fall
from lexiconlines.far import plain
from lexiconlines.farsteps import step
from lexiconlines.folding import first_folding
from lexiconlines.keys import Ladder, key_of
from lexiconlines.languages import coded, common, over, recolored, under
from lexiconlines.least import least
from lexiconlines.listing import by_length, words_upto
from lexiconlines.machines import book_of, filled, joined, mirrored, repeated, shuffled
from lexiconlines.matching import Matching
from lexiconlines.ordinals import Ordinal
from lexiconlines.papers import judged
from lexiconlines.pieces import pieces
from lexiconlines.places import gap_inside
from lexiconlines.plain import gap_terms, term_of
from lexiconlines.profiles import profile_of, shuffle_profile
from lexiconlines.rows import even_sign, is_row, is_sign, least_row
from lexiconlines.signs import expansion
from lexiconlines.spans import between
from lexiconlines.steps import first_word, next_word, previous_word, upward
from lexiconlines.telling import least_depth, telling_formula
from lexiconlines.terms import Term, sign_term
from lexiconlines.triples import triple_of
from lexiconlines.ways import kinds_of_gap
from lexiconlines.wells import fall_paper, is_well, ordinal_of, rise_paper
from lexiconlines.words import in_short_order
from tests.support import ANY_VALUES, ROW, STEP, TWO, LexiconCase, bench_with, book, random_term, retold

NODES = [("x", 0, 1, None, None), ("", 1, 0, None, 2), ("y", None, None, None, None)]


class ConventionsTest(LexiconCase):

    def test_arguments_stay(self):
        nodes, code, words = list(NODES), ["a", "b", "ca", "cb"], ["b", "a", "b"]
        one = Book(nodes)
        coded(one, code)
        in_short_order(words)
        self.assertEqual((nodes, code, words), (NODES, ["a", "b", "ca", "cb"], ["b", "a", "b"]))

    def test_books_never_change(self):
        one = Book(NODES)
        for call in (least, classes, lambda it: over(it, TWO), lambda it: common(it, STEP), lambda it: recolored(it, x="z"),
                     lambda it: between(it, low="a", high="b"), lambda it: under(it, "abc"), lambda it: list(by_length(it)),
                     lambda it: step(it, (), by=3), Book.text, Book.live, term_of, Ladder, key_of, mirrored, repeated,
                     lambda it: joined(it, it), lambda it: shuffled(it, TWO), lambda it: filled(it, x=it), dense_paper,
                     lambda it: pieces(it, ""), lambda it: gap_inside(it, kinds_of_gap(it, 0)[0])):
            call(one)
            self.assertEqual(one.nodes(), NODES)

    def test_tuples_in_the_place_of_lists(self):
        self.assertEqual(Book(tuple(NODES)), Book(NODES))
        self.assertEqual(coded(TWO, ("a", "b", "ca", "cb")), coded(TWO, ["a", "b", "ca", "cb"]))
        self.assertEqual(in_short_order(("b", "a")), ["a", "b"])
        self.assertEqual(even_sign(("y", "x")), even_sign(["y", "x"]))

    def test_returned_lists_are_new(self):
        one = Book(NODES)
        for call in (Book.nodes, Book.live, classes, lambda it: class_of(it, 0), lambda it: words_upto(it, 2),
                     lambda it: gap_terms(it, 0), lambda it: kinds_of_gap(it, 0), lambda it: pieces(it, ""),
                     lambda it: Ladder(it).signs_at(2), lambda it: term_of(it).signs()):
            found = call(one)
            self.assertIs(found.__class__, list)
            before = list(found)
            found.reverse()
            found.append("more")
            self.assertEqual(call(one), before)

    def test_equal_calls_return_equal_results(self):
        one, other = Book(NODES), Book(NODES)
        for call in (least, first_word, lambda it: step(it, (), by=10 ** 30), lambda it: list(by_length(it, 50)),
                     lambda it: list(upward(it, "", 20)), lambda it: over(it, ROW), mirrored, lambda it: joined(it, STEP),
                     lambda it: shuffled(TWO, it), lambda it: filled(it, y=STEP), dense_paper,
                     lambda it: gap_inside(it, (0, "a", "b"))):
            self.assertEqual(call(one), call(one))
            self.assertEqual(call(one), call(other))
        with self.assertRaises(LookupError) as first:
            previous_word(TWO, "b")
        with self.assertRaises(LookupError) as second:
            previous_word(TWO, "b")
        self.assertEqual(first.exception.paper, second.exception.paper)
        self.assertIs(falls_to(TWO, None, first.exception.paper), False)

    def test_returned_values_may_be_passed(self):
        word = plain(step(ROW, (("a", 1),), by=3000))
        self.assertEqual(next_word(ROW, word), "b" + word)
        far = step(ROW, (("a", 1),), by=10 ** 30)
        for _ in range(20):
            far = step(ROW, far, by=10 ** 30)
        self.assertGreater(len(far), 6)
        self.assertEqual(step(ROW, far, by=0), far)
        long_text = book(*["x a0 b0 c0 d0"] * 200).text()
        self.assertGreater(len(long_text), 2000)
        self.assertEqual(len(Book.read(long_text)), 200)

    def test_returned_signs_and_rows_may_be_passed(self):
        term = Term.read("(x)>")
        for _ in range(60):
            term = Term.shuffle(term + Term.spot("y"))
        key = key_of(term)
        self.assertGreater(key.count("["), 40)
        self.assertIs(is_sign(key), True)
        self.assertIs(is_row(((key,), (), ("x", key))), True)
        self.assertEqual(least_row(((key,), (key, key), ())), ((key,), (), ()))
        self.assertEqual(key_of(expansion(key)), key)
        self.assertEqual(first_folding(sign_term(key) * 2).text(), f"[{key}{key}]")
        self.assertEqual(second_folding(Term.shuffle(sign_term(key))).text(), even_sign([key]))

    def test_terms_of_any_size_may_be_passed(self):
        term = Term.read("xy") * 40 * 40 * 2
        self.assertEqual((len(term), len(first_folding(term)), len(key_of(term))), (6400, 1, 6402))

    def test_equal_to_no_value_of_another_class(self):
        found = [one for one in ANY_VALUES if isinstance(one, (Book, Term, Ordinal, Bench))]
        self.assertEqual({one.__class__ for one in found}, {Book, Term, Ordinal, Bench})
        for one in found:
            for other in ANY_VALUES:
                if other.__class__ is not one.__class__:
                    self.assertEqual([one == other, other == one, one != other, other != one], [False, False, True, True])

    def test_true_and_false_are_no_numbers(self):
        for paper in (("part", True, 0, ""), ("part", 0, False, "")):
            self.assertEqual(judged(paper, TWO, ROW), "form")
        self.assertIs(is_deed(("limit", True)), False)
        self.check_error(InvalidNumber, {"number": 0}, Ordinal, (True, 1))

    def test_long_words_go_on(self):
        """Words that are returned, and papers with them, may be passed, however long they are."""
        word = plain(step(ROW, (("a", 1),), by=300))
        self.assertEqual(len(word), 301)
        other = book("- a1", "x a1")
        matching = Matching(ROW, other)
        mate = matching.mate(0, word)
        self.assertEqual((mate, matching.mate(1, "a" * 400)), ("a" * 301, "b" * 399 + "a"))
        self.assertEqual(judged(("mate", word, mate), ROW, other), "")
        self.assertEqual(judged(("next", word, "b" + word), ROW), "")
        self.assertEqual(judged(("fall", None, "", "b", word), ROW), "order")
        self.assertEqual(triple_of(ROW, word, 3), triple_of(other, mate, 3))
        far = under(TWO, "c" * 120)
        self.assertEqual(judged(("dense", *dense_paper(far)), far), "")
        self.assertEqual(judged(("rise", None, *rise_paper(far)), far) in ("", "between"), True)
        self.assertEqual(len(is_fall(far, fall_paper(far)) and fall_paper(far)[0]), 120)

    def test_tuples_of_returned_values_may_be_passed(self):
        profile = profile_of(TWO, 3)
        self.assertEqual(shuffle_profile((profile, (), profile), 3), shuffle_profile([profile], 3))
        self.assertEqual(is_shut(tuple(all_profiles(1, 2)) * 2, 1, 2), True)
        formula = telling_formula(TWO, ROW)
        self.assertIsNotNone(model((formula, ("not", ("not", formula)))))
        self.assertEqual(replayed(tuple(bench_with(a=TWO).journal())).book("a"), TWO)

    def test_calls_on_equal_states(self):
        def results(bench):
            with bench.draft() as draft:
                draft.do(("up", "c", "a"))
                draft.keep()
            number = bench.match("a", "b")
            return [bench.text(), bench.mate(number, 0, "ba"), bench.pairs(number), bench("part a c"), bench.shelf(), bench.tried(("mirror", "a", "a"))]

        first, second = bench_with(a=ROW, b=book("x a0")), bench_with(b=book("x a0"), a=ROW)
        twin = first.twin()
        told = results(first)
        self.assertEqual((results(second), results(twin)), (told, told))
        one, other = Duel(TWO, ROW), Duel(TWO, ROW)
        self.assertEqual(one.choose(), other.choose())
        self.assertEqual(telling_formula(TWO, ROW), telling_formula(Book(TWO.nodes()), ROW))
        self.assertEqual(term_with(profile_of(ROW, 2), 2, 2), term_with(profile_of(ROW, 2), 2, 2))

    def test_lines_have_one_profile_and_one_ordinal(self):
        """Whatever book or term a line is written in: keys, profiles and ordinals are those of the line."""
        dice = random.Random(211)
        for _ in range(40):
            term = random_term(dice, 3, "xy")
            other = retold(dice, term)
            if len(term) > 20 or len(other) > 40:
                continue
            lines = [term, other, book_of(term), coded(book_of(other), ["a", "ba", "bb", "c"]), least(book_of(other)), mirrored(mirrored(book_of(term)))]
            self.assertEqual(len({key_of(line) for line in lines}), 1)
            self.assertEqual(len({profile_of(line, 3) for line in lines}), 1)
            wells = [is_well(line) for line in lines]
            self.assertEqual(len(set(wells)), 1)
            if wells[0]:
                self.assertEqual(len({ordinal_of(line).text() for line in lines}), 1)
            self.assertEqual([least_depth(line, term) for line in lines], [None] * 6)
            self.assertEqual(len(Matching(lines[2], lines[3])), 0)
