"""Benches: deeds, limits, history, sessions, twins."""

import random

from lexiconlines.bench import Bench
from lexiconlines.books import Book
from lexiconlines.deeds import is_deed, made_by
from lexiconlines.errors import (
    Full, InvalidDeed, InvalidNumber, InvalidWord, LexiconError, LookupFailed, NothingLeft, NoWord, TooMany, UnknownName,
    UnknownSession, Unlike)
from lexiconlines.keys import key_of
from lexiconlines.least import least
from lexiconlines.machines import joined, repeated
from lexiconlines.matching import Matching
from tests.support import ANY_VALUES, EMPTY_WORD, NOTHING, ROW, STEP, TWO, LexiconCase, bench_with, book, chain

THREE = book("x a0 b0 c0")
OTHER_ROW = book("- a1", "x a1")
NAMES = "abcdefghijklmnop"


class BenchCase(LexiconCase):

    def check_refused(self, error, told, bench, call, *args, **named):
        """Checks that a call raises an error and changes nothing."""
        before = seen(bench)
        self.check_error(error, told, call, *args, **named)
        self.assertEqual(seen(bench), before)


def seen(bench):
    """All that can be seen of a bench."""
    return (bench.text(), bench.steps(), bench.journal(), bench.names(), bench.limit, bench.sessions(),
            [bench.pairs(number) for number in bench.sessions()], bench.log(), bench.busy, len(bench), repr(bench))


class NewBenchTest(BenchCase):

    def test_a_new_bench_is_empty(self):
        bench = Bench()
        self.assertEqual(seen(bench), ("limit 8\n", (0, 0), [], [], 8, [], [], [], False, 0, "Bench(0 books)"))
        self.assertIs(bool(bench), True)
        self.assertEqual((bench.shelf(), bench == Bench()), ({}, True))
        self.assertIsNone(bench.do())
        self.assertEqual(bench.steps(), (0, 0))

    def test_books_and_names(self):
        bench = bench_with(two=TWO, row=ROW)
        self.assertEqual((bench.names(), len(bench), repr(bench), bench.book("two"), bench.book(name="row")),
                         (["row", "two"], 2, "Bench(2 books)", TWO, ROW))
        self.assertEqual((repr(bench_with(a=TWO)), bool(bench)), ("Bench(1 books)", True))
        for value in [value for value in ANY_VALUES if value != "two"] + ["tw", "twos", "Two", ("two",), ["two"], "two\n"]:
            self.check_refused(UnknownName, {"name": value}, bench, bench.book, value)
            self.assertIs(value in bench, False)
        self.assertIs("two" in bench, True)

    def test_equality(self):
        one, other = bench_with(two=TWO, row=ROW), bench_with(row=ROW, two=TWO)
        self.assertTrue(one == other and not one != other)
        other("names")
        self.assertEqual(one, other)
        other.limit = 9
        self.assertNotEqual(one, other)
        other.limit = 8
        self.assertEqual(one, other)
        other.do(("put", "row", OTHER_ROW))
        self.assertNotEqual(one, other)
        self.assertNotEqual(bench_with(two=TWO), one)
        self.assertNotEqual(bench_with(a=TWO), bench_with(b=TWO))
        # Equal words alone do not make equal books.
        self.assertNotEqual(bench_with(a=book("x b1", "x b2", "x")), bench_with(a=book("x b1", "x b2", "x", "x")))
        for value in [value for value in ANY_VALUES if value.__class__ is not Bench] + [one.text(), one.names(), {"two": TWO, "row": ROW}]:
            self.assertEqual([one == value, value == one, one != value, value != one], [False, False, True, True])

    def test_shelf(self):
        bench = bench_with(two=TWO, three=THREE, row=ROW, b=OTHER_ROW, none=NOTHING, y=EMPTY_WORD)
        told = {"0": ["none"], key_of(ROW): ["b", "row"], key_of(TWO): ["three", "two"], "y": ["y"]}
        found = bench.shelf()
        self.assertEqual((found, list(found)), (told, sorted(told)))
        found["0"].append("more")
        found["more"] = []
        self.assertEqual(bench.shelf(), told)


class DoTest(BenchCase):

    def test_each_deed(self):
        bench = bench_with(two=TWO, row=ROW)
        for deed in [("join", "a", "two", "row"), ("up", "two", "row"), ("down", "row", "row"), ("mirror", "b", "two"), ("fill", "b", "row", "x", "two"),
                     ("span", "c", "two", "a", None), ("drop_color", "c", "c", "x"), ("over", "a", "two", "two"), ("put", "d", STEP)]:
            books = {name: bench.book(name) for name in bench.names()}
            many = bench.steps()[0]
            self.assertIsNone(bench.do(deed))
            self.assertEqual(bench.book(deed[1]), made_by(deed, books))
            self.assertEqual({name: bench.book(name) for name in bench.names()}, {**books, deed[1]: made_by(deed, books)})
            self.assertEqual((bench.steps(), bench.busy, bench.journal()[-1]), ((many + 1, 0), False, (deed,)))
        bench.do(("drop", "two"))
        self.assertNotIn("two", bench)
        bench.do(("limit", 5))
        self.assertEqual(bench.limit, 5)

    def test_several_deeds_are_one_step(self):
        bench = Bench()
        bench.do(("put", "a", TWO), ("up", "b", "a"), ("join", "a", "a", "b"), ("drop", "b"), ("limit", 1))
        self.assertEqual((bench.names(), bench.limit, bench.steps()), (["a"], 1, (1, 0)))
        self.assertEqual(bench.book("a"), joined(TWO, repeated(TWO)))
        self.assertEqual(bench.journal(), [(("put", "a", TWO), ("up", "b", "a"), ("join", "a", "a", "b"), ("drop", "b"), ("limit", 1))])

    def test_a_later_deed_fails(self):
        bench = bench_with(two=TWO, row=ROW)
        for deeds, error, told in [
            ([("put", "a", TWO), ("drop", "b")], UnknownName, {"name": "b"}),
            ([("drop", "two"), ("up", "a", "two")], UnknownName, {"name": "two"}),
            ([("limit", 2), ("put", "a", TWO)], Full, {"most": 2}),
            ([("put", "a", TWO), ("limit", 2)], Full, {"most": 2}),
            ([("put", "a", chain(61)), ("up", "b", "two"), ("mirror", "c", "a")], TooMany, {"count": 61}),
            ([("put", "a", TWO), ("drop", "row"), ("join", "c", "a", "row")], UnknownName, {"name": "row"}),
        ]:
            self.check_refused(error, told, bench, bench.do, *deeds)
            self.check_refused(error, told, bench, bench.tried, *deeds)

    def test_invalid_deeds_come_first(self):
        bench = bench_with(two=TWO)
        for value in [value for value in ANY_VALUES if not is_deed(value)] + [["drop", "two"], ("drop",), ("limit", True), ("limit", 13)]:
            self.check_refused(InvalidDeed, {"at": 0}, bench, bench.do, value)
            self.check_refused(InvalidDeed, {"at": 2}, bench, bench.do, ("drop", "none"), ("up", "a", "none"), value, None)
            self.check_refused(InvalidDeed, {"at": 1}, bench, bench.tried, ("put", "a", TWO), value, value)

    def test_order_of_errors(self):
        bench = bench_with(**{name: TWO for name in NAMES[:7]}, long=chain(61))
        self.assertEqual(len(bench), 8)
        self.check_refused(UnknownName, {"name": "p"}, bench, bench.do, ("join", "new", "p", "q"))
        self.check_refused(UnknownName, {"name": "q"}, bench, bench.do, ("join", "new", "a", "q"))
        self.check_refused(UnknownName, {"name": "q"}, bench, bench.do, ("fill", "new", "long", "x", "q"))
        self.check_refused(Full, {"most": 8}, bench, bench.do, ("up", "new", "long"))
        self.check_refused(TooMany, {"count": 61}, bench, bench.do, ("up", "long", "long"))
        self.check_refused(UnknownName, {"name": "new"}, bench, bench.do, ("drop", "new"))
        # Under a name that is kept, a full bench takes a book.
        bench.do(("put", "long", TWO), ("up", "a", "long"))
        self.assertEqual((len(bench), bench.book("a")), (8, repeated(TWO)))

    def test_books_that_are_put_stay(self):
        nodes = [("x", 0, 1, None, None), ("", None, None, None, None)]
        one = Book(nodes)
        bench = bench_with(a=one)
        nodes.append(None)
        bench.book("a").nodes().clear()
        self.assertEqual(bench.book("a").text(), "x a0 b1\n-\n")
        self.assertNotEqual(bench.book("a"), least(one))

    def test_keep(self):
        bench = Bench()
        self.assertIsNone(bench.keep(b=ROW, a=TWO))
        self.assertEqual((bench.journal(), bench.steps()), ([(("put", "a", TWO), ("put", "b", ROW))], (1, 0)))
        bench.keep(b=STEP)
        self.assertEqual((bench.book("b"), bench.steps()), (STEP, (2, 0)))
        bench.keep()
        self.assertEqual(bench.steps(), (2, 0))
        self.check_refused(InvalidDeed, {"at": 1}, bench, bench.keep, c=TWO, abcdefg=TWO, b_=ROW, a=TWO)
        self.check_refused(InvalidDeed, {"at": 0}, bench, bench.keep, c=TWO, B=TWO, d=ROW)
        self.check_refused(InvalidDeed, {"at": 0}, bench, bench.keep, **{"": TWO, "a b": TWO, "a": TWO})
        self.check_refused(Full, {"most": 8}, bench, bench.keep, **{name: TWO for name in NAMES[:9]})

    def test_tried(self):
        bench = bench_with(a=TWO)
        before = seen(bench)
        self.assertEqual(bench.tried(("put", "b", ROW), ("limit", 2)), "limit 2\nbook a\nx a0 b0\nend\nbook b\n- a1 b0\nx\nend\n")
        self.assertEqual(bench.tried(), bench.text())
        self.assertEqual(bench.tried(("drop", "a")), "limit 8\n")
        self.assertEqual(seen(bench), before)


class LimitTest(BenchCase):

    def test_bounds(self):
        bench = Bench()
        for number in (12, 1, 7):
            bench.limit = number
            self.assertEqual((bench.limit, bench.journal()[-1]), (number, (("limit", number),)))
        self.assertIsNone(bench.change_limit(3))
        bench.change_limit(number=3)
        self.assertEqual((bench.limit, bench.steps()), (3, (5, 0)))
        bench.keep(a=TWO, b=TWO, c=TWO)
        self.check_refused(Full, {"most": 3}, bench, bench.keep, d=TWO)
        bench.limit = 3
        for number in (1, 2):
            self.check_refused(Full, {"most": number}, bench, bench.change_limit, number)
            self.check_refused(Full, {"most": number}, bench, setattr, bench, "limit", number)
            self.check_refused(Full, {"most": number}, bench, bench.do, ("limit", number))
        bench.limit = 12
        bench.keep(**{name: ROW for name in NAMES[3:12]})
        self.check_refused(Full, {"most": 12}, bench, bench.do, ("put", "z", TWO))

    def test_wrong_limits(self):
        bench = bench_with(a=TWO, b=TWO)
        for value in [0, 13, -1, True, False, 10 ** 30] + [value for value in ANY_VALUES if value.__class__ is not int]:
            self.check_refused(InvalidNumber, {"number": value}, bench, bench.change_limit, value)
            self.check_refused(InvalidNumber, {"number": value}, bench, setattr, bench, "limit", value)


class HistoryTest(BenchCase):

    def test_undo_and_redo(self):
        bench = Bench()
        texts = [bench.text()]
        for deeds in [[("put", "a", TWO)], [("up", "b", "a"), ("limit", 2)], [("drop", "a")], [("limit", 12)]]:
            bench.do(*deeds)
            texts.append(bench.text())
        for at in (3, 2, 1, 0):
            self.assertIsNone(bench.undo())
            self.assertEqual((bench.text(), bench.steps(), len(bench.journal())), (texts[at], (at, 4 - at), at))
        self.check_refused(NothingLeft, {}, bench, bench.undo)
        for at in (1, 2, 3, 4):
            self.assertIsNone(bench.redo())
            self.assertEqual((bench.text(), bench.steps(), len(bench.journal())), (texts[at], (at, 4 - at), at))
        self.check_refused(NothingLeft, {}, bench, bench.redo)
        self.check_refused(NothingLeft, {}, Bench(), Bench().undo)

    def test_a_new_step_forgets(self):
        bench = bench_with(a=TWO)
        bench.keep(b=ROW)
        bench.undo()
        # Neither a call without deeds nor one that fails is a step.
        bench.do()
        bench.keep()
        self.check_error(UnknownName, {"name": "b"}, bench.do, ("drop", "b"))
        self.assertEqual(bench.steps(), (1, 1))
        bench.limit = 8
        self.assertEqual(bench.steps(), (2, 0))
        self.check_refused(NothingLeft, {}, bench, bench.redo)
        self.assertEqual(bench.journal(), [(("put", "a", TWO),), (("limit", 8),)])

    def test_journals_are_new(self):
        bench = bench_with(a=TWO)
        found = bench.journal()
        found.clear()
        bench.names().append("z")
        self.assertEqual((bench.journal(), bench.names()), ([(("put", "a", TWO),)], ["a"]))

    def test_random_steps(self):
        dice = random.Random(191)
        bench, states, at = Bench(), [("limit 8\n", [])], 0
        for _ in range(300):
            chance = dice.random()
            if chance < 0.25:
                if at > 0:
                    bench.undo()
                    at -= 1
            elif chance < 0.45:
                if at < len(states) - 1:
                    bench.redo()
                    at += 1
            else:
                deeds = [dice.choice([("put", dice.choice(NAMES[:5]), dice.choice([TWO, ROW, STEP])), ("drop", dice.choice(NAMES[:5])),
                                      ("limit", dice.randint(1, 12)), ("over", dice.choice(NAMES[:9]), "a", "b")])
                         for _ in range(dice.randint(1, 2))]
                try:
                    bench.do(*deeds)
                    states = states[:at + 1] + [(bench.text(), states[at][1] + [tuple(deeds)])]
                    at += 1
                except (LexiconError, LookupFailed):
                    pass
            self.assertEqual((bench.text(), bench.journal(), bench.steps()), (*states[at], (at, len(states) - 1 - at)))
        self.assertGreater(len(states), 10)


class SessionTest(BenchCase):

    def test_sessions(self):
        bench = bench_with(two=TWO, three=THREE, row=ROW, other=OTHER_ROW)
        self.assertEqual((bench.match("two", "three"), bench.match(one="row", other="other"), bench.match("row", "row")), (0, 1, 2))
        self.assertEqual(bench.sessions(), [0, 1, 2])
        told = Matching(ROW, OTHER_ROW)
        self.assertEqual([bench.mate(1, 0, "ba"), bench.mate(number=1, side=1, word="a")], [told.mate(0, "ba"), told.mate(1, "a")])
        self.assertEqual((bench.pairs(1), bench.pairs(number=0), bench.pairs(2)), (told.pairs(), [], []))
        bench.pairs(1).clear()
        self.assertEqual(bench.pairs(1), told.pairs())
        self.assertEqual(bench.steps(), (1, 0))

    def test_refused_sessions_use_no_number(self):
        bench = bench_with(two=TWO, row=ROW)
        self.check_refused(Unlike, {"level": 2, "sign": "[{[(x)>]}]"}, bench, bench.match, "two", "row")
        for value in [value for value in ANY_VALUES if value != "two"] + ["", "rows", ["row"]]:
            self.check_refused(UnknownName, {"name": value}, bench, bench.match, value, "none")
            self.check_refused(UnknownName, {"name": value}, bench, bench.match, "two", value)
        self.assertEqual((bench.match("two", "two"), bench.sessions()), (0, [0]))

    def test_errors(self):
        bench = bench_with(row=ROW, other=OTHER_ROW)
        number = bench.match("row", "other")
        for value in [1, -1, 10 ** 30, True, False] + [value for value in ANY_VALUES if value.__class__ is not int]:
            self.check_refused(UnknownSession, {"number": value}, bench, bench.mate, value, 7, "e")
            self.check_refused(UnknownSession, {"number": value}, bench, bench.pairs, value)
        self.check_refused(InvalidNumber, {"number": True}, bench, bench.mate, number, True, "e")
        self.check_refused(InvalidWord, {"word": "e"}, bench, bench.mate, number, 0, "e")
        self.check_refused(NoWord, {"word": "b", "place": 1}, bench, bench.mate, number, 0, "b")

    def test_deeds_close_and_undo_opens_again(self):
        bench = bench_with(row=ROW, other=OTHER_ROW)
        bench.match("row", "other")
        mate = bench.mate(0, 0, "bba")
        bench.do(("put", "row", OTHER_ROW))
        self.assertEqual(bench.sessions(), [])
        self.check_refused(UnknownSession, {"number": 0}, bench, bench.mate, 0, 0, "bba")
        self.check_refused(UnknownSession, {"number": 0}, bench, bench.pairs, 0)
        # No number is used twice.
        self.assertEqual((bench.match("row", "other"), bench.sessions()), (1, [1]))
        bench.undo()
        self.assertEqual((bench.sessions(), bench.pairs(0)), ([0], [("bba", mate)]))
        bench.redo()
        self.assertEqual(bench.sessions(), [1])
        bench.do(("drop", "other"))
        self.assertEqual(bench.sessions(), [])
        bench.do(("put", "other", OTHER_ROW), ("put", "row", Book(ROW.nodes())))
        self.assertEqual((bench.sessions(), bench.mate(0, 1, mate)), ([0], "bba"))

    def test_equal_books_keep_sessions_open(self):
        bench = bench_with(row=ROW)
        bench.match("row", "row")
        bench.do(("put", "row", Book.read(ROW.text())), ("put", "more", TWO), ("limit", 3))
        self.assertEqual(bench.sessions(), [0])
        bench.do(("put", "row", book("- a1 b0", "x", "x")))
        self.assertEqual(bench.sessions(), [])
        bench.do(("put", "copy", ROW))
        self.assertEqual(bench.sessions(), [])


class TwinTest(BenchCase):

    def test_twins(self):
        bench = bench_with(row=ROW, other=OTHER_ROW)
        bench.match("row", "other")
        bench.mate(0, 0, "ba")
        bench.say("names")
        bench.limit = 9
        bench.undo()
        twin = bench.twin()
        self.assertEqual((seen(twin), twin == bench), (seen(bench), True))
        twin.redo()
        twin.mate(0, 0, "a")
        twin("count")
        twin.match("row", "row")
        self.assertEqual((bench.limit, bench.steps(), bench.pairs(0), bench.log(), bench.sessions()),
                         (8, (1, 1), [("ba", "aa")], [("names", "other row")], [0]))
        self.assertEqual((twin.limit, twin.steps(), len(twin.pairs(0)), twin.log(), twin.sessions()),
                         (9, (2, 0), 2, [("names", "other row"), ("count", "2")], [0, 1]))
        bench.undo()
        self.assertEqual((bench.names(), twin.names()), ([], ["other", "row"]))
        bench.redo()
        bench.redo()
        self.assertEqual(bench, twin)

    def test_twins_keep_closed_sessions(self):
        bench = bench_with(row=ROW)
        bench.match("row", "row")
        bench.mate(0, 0, "a")
        bench.do(("drop", "row"))
        twin = bench.twin()
        twin.undo()
        self.assertEqual((twin.pairs(0), twin.match("row", "row"), bench.sessions()), ([("a", "a")], 1, []))
