"""Conventions that hold for all functions: arguments, results and repeated calls."""

from lexiconlines.books import Book
from lexiconlines.classes import class_of, classes
from lexiconlines.dense import dense_paper
from lexiconlines.evens import second_folding
from lexiconlines.falls import falls_to
from lexiconlines.far import plain
from lexiconlines.farsteps import step
from lexiconlines.folding import first_folding
from lexiconlines.keys import Ladder, key_of
from lexiconlines.languages import coded, common, over, recolored, under
from lexiconlines.least import least
from lexiconlines.listing import by_length, words_upto
from lexiconlines.machines import filled, joined, mirrored, repeated, shuffled
from lexiconlines.pieces import pieces
from lexiconlines.places import gap_inside
from lexiconlines.plain import gap_terms, term_of
from lexiconlines.rows import even_sign, is_row, is_sign, least_row
from lexiconlines.signs import expansion
from lexiconlines.spans import between
from lexiconlines.steps import first_word, next_word, previous_word, upward
from lexiconlines.terms import Term, sign_term
from lexiconlines.ways import kinds_of_gap
from lexiconlines.words import in_short_order
from tests.support import ROW, STEP, TWO, LexiconCase, book

NODES = [("x", 0, 1, None, None), ("", 1, 0, None, 2), ("y", None, None, None, None)]


class ConventionsTest(LexiconCase):

    def test_arguments_stay(self):
        nodes, code, words = list(NODES), ["a", "b", "ca", "cb"], ["b", "a", "b"]
        one = Book(nodes)
        coded(one, code)
        in_short_order(words)
        self.assertEqual((nodes, code, words), (NODES, ["a", "b", "ca", "cb"], ["b", "a", "b"]))

    def test_books_never_change(self):
        one = Book(NODES)
        for call in (least, classes, lambda it: over(it, TWO), lambda it: common(it, STEP), lambda it: recolored(it, x="z"),
                     lambda it: between(it, low="a", high="b"), lambda it: under(it, "abc"), lambda it: list(by_length(it)),
                     lambda it: step(it, (), by=3), Book.text, Book.live, term_of, Ladder, key_of, mirrored, repeated,
                     lambda it: joined(it, it), lambda it: shuffled(it, TWO), lambda it: filled(it, x=it), dense_paper,
                     lambda it: pieces(it, ""), lambda it: gap_inside(it, kinds_of_gap(it, 0)[0])):
            call(one)
            self.assertEqual(one.nodes(), NODES)

    def test_tuples_in_the_place_of_lists(self):
        self.assertEqual(Book(tuple(NODES)), Book(NODES))
        self.assertEqual(coded(TWO, ("a", "b", "ca", "cb")), coded(TWO, ["a", "b", "ca", "cb"]))
        self.assertEqual(in_short_order(("b", "a")), ["a", "b"])
        self.assertEqual(even_sign(("y", "x")), even_sign(["y", "x"]))

    def test_returned_lists_are_new(self):
        one = Book(NODES)
        for call in (Book.nodes, Book.live, classes, lambda it: class_of(it, 0), lambda it: words_upto(it, 2),
                     lambda it: gap_terms(it, 0), lambda it: kinds_of_gap(it, 0), lambda it: pieces(it, ""),
                     lambda it: Ladder(it).signs_at(2), lambda it: term_of(it).signs()):
            found = call(one)
            self.assertIs(found.__class__, list)
            before = list(found)
            found.reverse()
            found.append("more")
            self.assertEqual(call(one), before)

    def test_equal_calls_return_equal_results(self):
        one, other = Book(NODES), Book(NODES)
        for call in (least, first_word, lambda it: step(it, (), by=10 ** 30), lambda it: list(by_length(it, 50)),
                     lambda it: list(upward(it, "", 20)), lambda it: over(it, ROW), mirrored, lambda it: joined(it, STEP),
                     lambda it: shuffled(TWO, it), lambda it: filled(it, y=STEP), dense_paper,
                     lambda it: gap_inside(it, (0, "a", "b"))):
            self.assertEqual(call(one), call(one))
            self.assertEqual(call(one), call(other))
        with self.assertRaises(LookupError) as first:
            previous_word(TWO, "b")
        with self.assertRaises(LookupError) as second:
            previous_word(TWO, "b")
        self.assertEqual(first.exception.paper, second.exception.paper)
        self.assertIs(falls_to(TWO, None, first.exception.paper), False)

    def test_returned_values_may_be_passed(self):
        word = plain(step(ROW, (("a", 1),), by=3000))
        self.assertEqual(next_word(ROW, word), "b" + word)
        far = step(ROW, (("a", 1),), by=10 ** 30)
        for _ in range(20):
            far = step(ROW, far, by=10 ** 30)
        self.assertGreater(len(far), 6)
        self.assertEqual(step(ROW, far, by=0), far)
        long_text = book(*["x a0 b0 c0 d0"] * 200).text()
        self.assertGreater(len(long_text), 2000)
        self.assertEqual(len(Book.read(long_text)), 200)

    def test_returned_signs_and_rows_may_be_passed(self):
        term = Term.read("(x)>")
        for _ in range(60):
            term = Term.shuffle(term + Term.spot("y"))
        key = key_of(term)
        self.assertGreater(key.count("["), 40)
        self.assertIs(is_sign(key), True)
        self.assertIs(is_row(((key,), (), ("x", key))), True)
        self.assertEqual(least_row(((key,), (key, key), ())), ((key,), (), ()))
        self.assertEqual(key_of(expansion(key)), key)
        self.assertEqual(first_folding(sign_term(key) * 2).text(), f"[{key}{key}]")
        self.assertEqual(second_folding(Term.shuffle(sign_term(key))).text(), even_sign([key]))

    def test_terms_of_any_size_may_be_passed(self):
        term = Term.read("xy") * 40 * 40 * 2
        self.assertEqual((len(term), len(first_folding(term)), len(key_of(term))), (6400, 1, 6402))
