"""Drafts of benches: ahead of, within and behind their with-blocks."""

from lexiconlines.bench import Bench, Draft, drafted
from lexiconlines.errors import Closed, Full, InvalidDeed, TooMany, UnknownName
from tests.support import ANY_VALUES, ROW, STEP, TWO, LexiconCase, bench_with, chain


class DraftTest(LexiconCase):

    def setUp(self):
        self.bench = bench_with(two=TWO, row=ROW)

    def test_ahead_within_and_behind(self):
        draft = self.bench.draft()
        self.assertIs(draft.__class__, Draft)
        self.assertIs(draft.is_open, False)
        with draft as inner:
            self.assertIs(inner, draft)
            self.assertIs(draft.is_open, True)
        self.assertIs(draft.is_open, False)
        self.assertEqual((draft.names(), draft.book("two"), draft.book(name="row")), (["row", "two"], TWO, ROW))

    def test_closed_drafts(self):
        draft = Draft(bench=self.bench)
        for _ in range(2):
            for deeds in ([], [("put", "a", TWO)], [None], [("drop", "none")]):
                self.check_error(Closed, {}, draft.do, *deeds)
            self.check_error(Closed, {}, draft.keep)
            self.assertEqual(draft.names(), ["row", "two"])
            with draft:
                pass
        self.assertEqual(self.bench.steps(), (1, 0))

    def test_deeds_do_not_change_the_bench(self):
        before = self.bench.text()
        with self.bench.draft() as draft:
            self.assertIsNone(draft.do(("put", "step", STEP), ("drop", "row")))
            self.assertEqual((draft.names(), draft.book("step")), (["step", "two"], STEP))
            self.check_error(UnknownName, {"name": "row"}, draft.book, "row")
            self.assertEqual((self.bench.text(), self.bench.steps()), (before, (1, 0)))
        self.assertEqual((self.bench.text(), self.bench.steps(), draft.names()), (before, (1, 0), ["step", "two"]))

    def test_kept(self):
        with self.bench.draft() as draft:
            draft.do(("put", "step", STEP))
            draft.do(("up", "a", "step"), ("limit", 4))
            draft.do()
            self.assertIsNone(draft.keep())
            told = (("put", "step", STEP), ("up", "a", "step"), ("limit", 4))
            self.assertEqual((self.bench.journal()[1:], self.bench.steps(), self.bench.limit), ([told], (2, 0), 4))
            # What was kept is not done again, and the draft goes on with its own books.
            draft.keep()
            self.assertEqual((self.bench.steps(), draft.names()), ((2, 0), ["a", "row", "step", "two"]))
            draft.do(("drop", "a"))
            draft.keep()
            self.assertEqual((self.bench.journal()[2:], self.bench.names()), ([(("drop", "a"),)], ["row", "step", "two"]))
        self.bench.undo()
        self.bench.undo()
        self.assertEqual((self.bench.names(), self.bench.limit), (["row", "two"], 8))

    def test_kept_without_deeds(self):
        self.bench.undo()
        with self.bench.draft() as draft:
            draft.keep()
            draft.do()
            draft.keep()
        self.assertEqual(self.bench.steps(), (0, 1))

    def test_it_begins_when_it_is_made(self):
        draft = self.bench.draft()
        self.bench.do(("drop", "row"), ("limit", 1))
        with draft:
            draft.do(("up", "row", "row"), ("put", "a", TWO))
            self.assertEqual(draft.names(), ["a", "row", "two"])
            self.check_error(UnknownName, {"name": "row"}, draft.keep)

    def test_refused(self):
        with self.bench.draft() as draft:
            draft.do(("put", "step", STEP))
            self.bench.limit = 2
            self.check_error(Full, {"most": 2}, draft.keep)
            self.assertEqual((self.bench.steps(), draft.names(), draft.is_open), ((2, 0), ["row", "step", "two"], True))
            draft.do(("drop", "two"))
            self.check_error(Full, {"most": 2}, draft.keep)
            self.bench.limit = 3
            draft.keep()
            self.assertEqual((self.bench.names(), self.bench.journal()[-1]), (["row", "step"], (("put", "step", STEP), ("drop", "two"))))

    def test_errors_of_deeds(self):
        with self.bench.draft() as draft:
            for value in [value for value in ANY_VALUES if value not in [("drop", "two"), ("put", "two", TWO)]]:
                self.check_error(InvalidDeed, {"at": 1}, draft.do, ("put", "a", TWO), value)
            self.check_error(UnknownName, {"name": "a"}, draft.do, ("drop", "two"), ("up", "a", "a"))
            self.check_error(TooMany, {"count": 61}, draft.do, ("put", "a", chain(61)), ("mirror", "a", "a"))
            self.check_error(Full, {"most": 2}, draft.do, ("limit", 2), ("put", "a", TWO))
            self.assertEqual(draft.names(), ["row", "two"])
            draft.keep()
            for value in [value for value in ANY_VALUES if value != "two"] + [["two"], "twos"]:
                self.check_error(UnknownName, {"name": value}, draft.book, value)
        self.assertEqual(self.bench.steps(), (1, 0))

    def test_left_by_an_error(self):
        with self.assertRaises(ZeroDivisionError):
            with self.bench.draft() as draft:
                draft.do(("put", "a", TWO))
                draft.keep()
                draft.do(("put", "b", TWO))
                raise ZeroDivisionError
        self.assertEqual((draft.is_open, self.bench.names(), draft.names()), (False, ["a", "row", "two"], ["a", "b", "row", "two"]))
        self.check_error(Closed, {}, draft.keep)

    def test_nested_drafts(self):
        with self.bench.draft() as outer:
            outer.do(("put", "a", TWO))
            with self.bench.draft() as inner:
                inner.do(("put", "b", STEP))
                self.assertEqual((outer.is_open, inner.is_open, inner.names()), (True, True, ["b", "row", "two"]))
                inner.keep()
            self.assertEqual((outer.is_open, inner.is_open, outer.names()), (True, False, ["a", "row", "two"]))
            outer.keep()
        self.assertEqual((self.bench.names(), self.bench.steps()), (["a", "b", "row", "two"], (3, 0)))

    def test_names_are_new(self):
        with self.bench.draft() as draft:
            draft.names().clear()
            self.assertEqual(draft.names(), ["row", "two"])


class DraftedTest(LexiconCase):

    def test_results(self):
        bench = Bench()
        seen = []

        def work(draft):
            seen.append((draft, draft.is_open))
            draft.do(("put", "a", TWO))
            draft.keep()
            return ["done"]

        self.assertEqual(drafted(bench, work), ["done"])
        self.assertEqual((len(seen), seen[0][1], seen[0][0].is_open, bench.names()), (1, True, False, ["a"]))
        self.assertEqual(drafted(bench=bench, work=lambda draft: draft.names()), ["a"])
        self.assertIsNone(drafted(bench, lambda draft: draft.do(("drop", "a"))))
        self.assertEqual((bench.names(), bench.steps()), (["a"], (1, 0)))

    def test_errors(self):
        bench = Bench()
        seen = []

        def work(draft):
            seen.append(draft)
            draft.do(("put", "a", TWO))
            draft.keep()
            draft.do(("drop", "b"))

        self.check_error(UnknownName, {"name": "b"}, drafted, bench, work)
        self.assertEqual((len(seen), seen[0].is_open, bench.names()), (1, False, ["a"]))
        with self.assertRaises(KeyError):
            drafted(bench, lambda draft: {}[draft.is_open])
        self.check_error(Closed, {}, drafted(bench, lambda draft: draft).do, ("drop", "a"))
