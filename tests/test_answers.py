"""Lines that a bench answers, and its log."""

from lexiconlines.bench import Bench
from lexiconlines.books import Book
from lexiconlines.keys import key_of, rank_of
from lexiconlines.listing import by_length
from lexiconlines.machines import book_of
from lexiconlines.parting import parting
from lexiconlines.plain import term_of
from lexiconlines.steps import first_word, last_word, next_word, previous_word
from lexiconlines.terms import Term
from lexiconlines.wells import ordinal_of
from tests.support import EMPTY_WORD, ENDING, NOTHING, ROW, STEP, TWO, LexiconCase, bench_with, book, late_book

THREE = book("x a0 b0 c0")


class AnswerCase(LexiconCase):

    def setUp(self):
        self.bench = bench_with(two=TWO, row=ROW, none=NOTHING, y=EMPTY_WORD, step=STEP, three=THREE, end=ENDING)

    def check_lines(self, *pairs):
        """Checks the answers to lines, both ways to ask, and what the log tells of them."""
        for line, answer in pairs:
            many = len(self.bench.log())
            self.assertEqual((self.bench.say(line), self.bench(line)), (answer, answer), line)
            self.assertEqual(self.bench.log()[many:], [(line, answer)] * 2)


class LinesTest(AnswerCase):

    def test_example(self):
        bench = Bench()
        bench.do(('put', 'two', Book.read('x a0 b0\n')), ('put', 'row', Book.read('x a0\n')))
        self.assertEqual([bench('names'), bench('words two 4'), bench('next two b'), bench('ordinal row'), bench('same two row'), bench('key six'),
                          bench.steps()], ['row two', '- a b aa', 'ba', 'w', 'no', 'error UnknownName', (1, 0)])

    def test_names_count_limit(self):
        self.check_lines(("names", "end none row step three two y"), ("count", "7"), ("limit", "8"))
        self.bench.limit = 12
        self.bench.do(("drop", "two"))
        self.check_lines(("names", "end none row step three y"), ("count", "6"), ("limit", "12"))
        self.assertEqual([Bench().say(line) for line in ("names", "count", "limit")], ["", "0", "8"])

    def test_keys_and_terms(self):
        for name in self.bench.names():
            one = self.bench.book(name)
            self.check_lines((f"key {name}", key_of(one)), (f"term {name}", term_of(one).text()))
        self.check_lines(("key none", "0"), ("term none", "0"), ("key y", "y"), ("term two", "(x)>{(x)>}"), ("key two", "[[(x)>][{[(x)>]}]]"))

    def test_words(self):
        self.check_lines(("words two 4", "- a b aa"), ("words two 1", "-"), ("words row 3", "a ba bba"), ("words none 5", ""), ("words y 20", "-"),
                         ("words two 20", " ".join(["-", *list(by_length(TWO, 20))[1:]])), ("words end 2", "b ab"))

    def test_steps(self):
        self.check_lines(("next two -", "a"), ("next two b", "ba"), ("next row a", "ba"), ("previous row ba", "a"), ("previous two a", "-"),
                         ("next two " + "b" * 40, "b" * 40 + "a"), ("first two", "-"), ("first row", "a"), ("last y", "-"), ("last end", "b"),
                         ("first y", "-"), ("previous end b", "ab"))
        self.check_lines(("next y -", "error NoStep"), ("previous two b", "error NoStep"), ("previous two -", "error NoStep"), ("last two", "error NoStep"),
                         ("first none", "error NoStep"), ("last none", "error NoStep"), ("next two c", "error NoWord"), ("previous row -", "error NoWord"),
                         ("next none -", "error NoWord"))
        self.assertEqual((next_word(TWO, "b"), previous_word(ROW, "ba"), first_word(ROW), last_word(ENDING)), ("ba", "a", "a", "b"))

    def test_same(self):
        self.check_lines(("same two three", "yes"), ("same two two", "yes"), ("same two row", "no"), ("same none y", "no"), ("same none none", "yes"))

    def test_ranks(self):
        self.check_lines(("rank row", "1"), ("rank y", "0"), ("rank none", "0"), ("rank two", "dense"), ("rank step", str(rank_of(STEP))),
                         ("rank end", "1"))

    def test_ordinals(self):
        self.bench.do(("up", "w", "row"))
        self.check_lines(("ordinal row", "w"), ("ordinal y", "1"), ("ordinal none", "0"), ("ordinal w", "w^2"), ("ordinal two", "error NotWell"),
                         ("ordinal end", "error NotWell"))
        self.assertEqual(ordinal_of(self.bench.book("w")).text(), "w^2")

    def test_parts(self):
        level, side, sign, word = parting(TWO, ROW)
        self.check_lines(("part two row", f"{level} {side} {sign} {word}"), ("part two three", "same"), ("part row row", "same"),
                         ("part y none", "0 0 y -"), ("part none y", "0 1 y -"), ("part row two", "2 1 [{[(x)>]}] b"))

    def test_undo_and_redo(self):
        bench = bench_with(a=TWO)
        bench.limit = 3
        self.bench = bench
        self.assertEqual([bench(line) for line in ("redo", "undo", "limit", "undo", "undo", "count", "redo", "redo", "redo", "limit", "count")],
                         ["error NothingLeft", "done", "8", "done", "error NothingLeft", "0", "done", "done", "error NothingLeft", "3", "1"])
        self.assertEqual((bench.steps(), len(bench.log())), ((2, 0), 11))


class WrongLinesTest(AnswerCase):

    def test_unknown_lines(self):
        for line in [
            "", " ", "name", "Names", "names ", " names", "names two", "names\n", "\nnames", "count two", "limit 8", "undo 1", "redo redo", "key", "key ",
            "key two ", "key  two", "key two row", "key TWO", "key toolong", "key two1", "key -", "key two\n", "keys two", "term", "term two three",
            "words two", "words two 0", "words two 21", "words two 05", "words two 5 ", "words two +5", "words two -", "words two 1.0", "words two 100",
            "words 5 two", "words two  5", "words two 5\n", "words", "words two two", "next two", "next two ", "next two e", "next two A", "next two a ",
            "next two  a", "next two x", "next two " + "a" * 41, "next two a b", "next two --", "next a", "previous two", "previous two -a",
            "previous two 1", "first", "first two -", "last two row", "last", "same two", "same two row row", "same two 1", "same", "rank",
            "rank two 1", "ordinal", "ordinal two two", "part two", "part", "part two row -", "put two", "undo\n", "unknown", "error", "drop two",
            "words two \n5", "next two\ta", "x" * 4000,
        ]:
            self.check_lines((line, "unknown"))

    def test_names_that_are_not_kept(self):
        self.check_lines(*[(line, "error UnknownName") for line in [
            "key six", "term abcdef", "words six 5", "next six a", "next six -", "previous six b", "first six", "last six", "same six two", "same two six",
            "rank six", "ordinal six", "part six seven", "part two six"]])
        # The form of a line comes ahead of its names.
        self.check_lines(("words six 21", "unknown"), ("next six e", "unknown"), ("key sixties", "unknown"))

    def test_errors_of_the_calls(self):
        many = [("", at + 1, at + 1, at + 1, at + 1) for at in range(7)] + [("x", None, None, None, None)]
        self.bench.do(("put", "great", Book(many)), ("put", "end", ENDING), ("drop", "step"), ("put", "late", late_book(5000)), ("limit", 12),
                      ("put", "rest", book_of(Term.read("<(x)"))))
        self.check_lines(("key great", "error TooMany"), ("term great", "error TooMany"), ("rank great", "error TooMany"), ("same great two", "error TooMany"),
                         ("same two great", "error TooMany"), ("part late rest", "error TooMany"), ("part rest late", "error TooMany"),
                         ("part great six", "error UnknownName"), ("part six great", "error UnknownName"), ("first great", "aaaaaaa"))
        self.assertEqual(self.bench.say("words great 1"), "aaaaaaa")


class LogTest(AnswerCase):

    def test_log(self):
        self.assertEqual(self.bench.log(), [])
        told = [(line, self.bench.say(line)) for line in ("names", "", "key six", "undo", "next two b", "redo", "next two b")]
        self.assertEqual([answer for _, answer in told], ["end none row step three two y", "unknown", "error UnknownName", "done", "error UnknownName",
                                                          "done", "ba"])
        self.assertEqual(self.bench.log(), told)
        self.bench.log().clear()
        self.bench.undo()
        self.assertEqual(self.bench.log(), told)

    def test_equal_lines(self):
        self.assertEqual(self.bench.say(line="words row 2"), self.bench("words row 2"))
