"""Texts of benches, benches read from texts, and journals that are done again."""

import random

from lexiconlines.bench import Bench
from lexiconlines.benchtexts import read_bench, replayed, write_bench
from lexiconlines.books import Book
from lexiconlines.errors import Full, InvalidDeed, InvalidText, LexiconError, LookupFailed, TooMany, UnknownName
from tests.support import ANY_VALUES, ENDING, NOTHING, ROW, STEP, TWO, LexiconCase, bench_with, book, chain, random_books

TEXT = "limit 3\nbook ab\nx a0 b0\nend\nbook b\n- a1 b0\nx\nend\n"
LINES = TEXT.split("\n")[:-1]


def joined_lines(lines):
    return "".join(line + "\n" for line in lines)


def told_error(text):
    """What is wrong with a text, by the words of the document; None if nothing is."""
    lines = text.split("\n")
    most, names, nodes, place = 0, [], [], "limit"
    for at, line in enumerate(lines[:-1]):
        head, _, rest = line.partition(" ")
        if place == "limit":
            if line not in [f"limit {number}" for number in range(1, 13)]:
                return at, "form"
            most, place = int(rest), "book"
        elif place == "book":
            if head != "book" or not (1 <= len(rest) <= 6 and rest.isascii() and rest.isalpha() and rest.islower()):
                return at, "form"
            if len(names) == most:
                return at, "many"
            if names and rest <= names[-1]:
                return at, "order"
            names, nodes, place = names + [rest], [], "nodes"
        elif line == "end":
            if not nodes or any(child is not None and child >= len(nodes) for node in nodes for child in node[1:]):
                return at, "node"
            place = "book"
        else:
            try:
                Book.read(line + "\n")
                wide = True
            except InvalidText as error:
                wide = error.why == "node"
            if not wide:
                return at, "form"
            if len(nodes) == 200:
                return at, "many"
            children = {piece[0]: int(piece[1:]) for piece in line.split(" ")[1:]}
            nodes.append(("", *[children.get(letter) for letter in "abcd"]))
    if lines[-1] != "":
        return len(lines) - 1, "form"
    return None if place == "book" else (len(lines) - 1, "missing")


class WriteTest(LexiconCase):

    def test_texts(self):
        bench = bench_with(b=ROW, ab=TWO)
        bench.limit = 3
        self.assertEqual((write_bench(bench), write_bench(bench=bench), bench.text()), (TEXT, TEXT, TEXT))
        self.assertEqual(write_bench(Bench()), "limit 8\n")
        self.assertEqual(write_bench(bench_with(none=NOTHING)), "limit 8\nbook none\n-\nend\n")

    def test_read_again(self):
        names = "abcdefgh"
        for seed in range(12):
            books = [one for one, _ in random_books(seed, 1 + seed % 8)]
            bench = bench_with(**{names[at] * (1 + at % 6): one for at, one in enumerate(books)})
            bench.limit = 8 + seed % 5
            other = read_bench(write_bench(bench))
            self.assertTrue(other == bench and other.text() == bench.text())
            self.assertEqual((other.steps(), other.journal(), other.sessions(), other.log(), other.busy), ((0, 0), [], [], [], False))
            other.do(("drop", "a"))
            self.assertEqual(len(other), len(bench) - 1)
            other.undo()
            self.assertEqual(other, bench)

    def test_without_history(self):
        bench = read_bench(text=TEXT)
        self.assertEqual((bench.names(), bench.limit, bench.book("ab"), bench.book("b")), (["ab", "b"], 3, TWO, ROW))
        self.assertEqual((bench.say("undo"), bench.match("b", "b")), ("error NothingLeft", 0))


class ReadTest(LexiconCase):

    def check_text(self, text, line, why):
        self.assertEqual(told_error(text), (line, why), text)
        self.check_error(InvalidText, {"line": line, "why": why}, read_bench, text)

    def test_forms(self):
        for text, line, why in [
            ("", 0, "missing"), ("\n", 0, "form"), ("limit 8", 0, "form"), ("limit 0\n", 0, "form"), ("limit 13\n", 0, "form"), ("limit 08\n", 0, "form"),
            ("limit  8\n", 0, "form"), ("limit 8 \n", 0, "form"), (" limit 8\n", 0, "form"), ("Limit 8\n", 0, "form"), ("limit\n", 0, "form"),
            ("limit x\n", 0, "form"), ("limit -1\n", 0, "form"), ("book a\nx\nend\n", 0, "form"), ("limit 8\nlimit 8\n", 1, "form"),
            ("limit 8\nend\n", 1, "form"), ("limit 8\nx\n", 1, "form"), ("limit 8\nbook\n", 1, "form"), ("limit 8\nbook \n", 1, "form"),
            ("limit 8\nbook A\n", 1, "form"), ("limit 8\nbook abcdefg\n", 1, "form"), ("limit 8\nbook a b\n", 1, "form"), ("limit 8\nbook a \n", 1, "form"),
            ("limit 8\nbook  a\n", 1, "form"), ("limit 8\nBook a\n", 1, "form"), ("limit 8\n\n", 1, "form"), ("limit 8\nbook a\n\n", 2, "form"),
            ("limit 8\nbook a\nx a00\nend\n", 2, "form"), ("limit 8\nbook a\nw\nend\n", 2, "form"), ("limit 8\nbook a\nx b0 a0\nend\n", 2, "form"),
            ("limit 8\nbook a\nx\nend \n", 3, "form"), ("limit 8\nbook a\nx\nEnd\n", 3, "form"), ("limit 8\nbook a\nx\nbook b\n", 3, "form"),
            ("limit 8\nbook a\nx\nend", 3, "form"), ("limit 8\nbook a\nx\nend\nbook b", 4, "form"), ("limit 8\nbook a\nx\nend\n ", 4, "form"),
            ("limit 8\nbook a\nx\nlimit 8\n", 3, "form"), ("limit 8\nbook a\nx a1000\n", 2, "form"), ("limit 8\nend", 1, "form"),
        ]:
            self.check_text(text, line, why)

    def test_missing(self):
        for text, line in [("limit 8\nbook a\n", 2), ("limit 8\nbook a\nx\n", 3), (TEXT + "book c\n", 9), (TEXT + "book c\nx\n", 10)]:
            self.check_text(text, line, "missing")

    def test_many(self):
        self.check_text("limit 1\nbook a\nx\nend\nbook b\nx\nend\n", 4, "many")
        self.check_text("limit 1\nbook a\nx\nend\nbook a\nx\nend\n", 4, "many")
        self.check_text("limit 1\nbook a\nx\nend\nbook A\nx\nend\n", 4, "form")
        many = "limit 12\n" + "".join(f"book {name}\nx\nend\n" for name in "abcdefghijkl")
        self.assertEqual(len(read_bench(many)), 12)
        self.check_text(many + "book m\nx\nend\n", 37, "many")
        nodes = "x a0\n" * 200
        self.assertEqual(len(read_bench("limit 1\nbook a\n" + nodes + "end\n").book("a")), 200)
        self.check_text("limit 1\nbook a\n" + nodes + "x a0\nend\n", 202, "many")
        self.check_text("limit 1\nbook a\n" + nodes + "x a999\nend\n", 202, "many")
        self.check_text("limit 1\nbook a\n" + nodes + "w\nend\n", 202, "form")
        self.check_text("limit 1\nbook a\n" + nodes, 202, "missing")

    def test_order(self):
        for names in ("ba", "aa", ["ab", "a"], ["b", "ab"]):
            self.check_text("limit 8\n" + "".join(f"book {name}\nx\nend\n" for name in names), 4, "order")
        self.assertEqual(read_bench("limit 2\nbook a\nx\nend\nbook aa\nx\nend\n").names(), ["a", "aa"])

    def test_nodes(self):
        for text, line in [("limit 8\nbook a\nend\n", 2), ("limit 8\nbook a\nx a1\nend\n", 3), ("limit 8\nbook a\nx d999\nend\n", 3),
                           ("limit 8\nbook a\nx a1\n- b2\nend\nfree\n", 4)]:
            self.check_text(text, line, "node")
        # Which nodes there are shows at the end of a book.
        self.assertEqual(read_bench("limit 8\nbook a\nx d2\n-\n-\nend\n").book("a"), book("x d2", "-", "-"))

    def test_values_that_are_no_strings(self):
        for value in ANY_VALUES + [LINES, tuple(LINES), b"limit 8\n"]:
            if not isinstance(value, str):
                self.check_error(InvalidText, {"line": 0, "why": "form"}, read_bench, value)

    def test_lines_left_out_doubled_moved_and_bent(self):
        dice = random.Random(201)
        texts = [TEXT.split("\n")[:-1], write_bench(bench_with(a=STEP, aa=ENDING, b=chain(5), c=NOTHING)).split("\n")[:-1]]
        reasons = {}
        for lines in texts:
            bents = [lines[:at] + lines[at + 1:] for at in range(len(lines))] + [lines[:at] + lines[at:at + 1] + lines[at:] for at in range(len(lines))]
            for _ in range(400):
                at, place = dice.randrange(len(lines)), dice.randrange(len(lines))
                rest = lines[:at] + lines[at + 1:]
                bents.append(rest[:place] + [lines[at]] + rest[place:])
                column = dice.randrange(len(lines[at]) + 1)
                mark = dice.choice("abx 01-endlimtbook\n")
                bent = dice.choice([lines[at][:column] + mark + lines[at][column:], lines[at][:column] + lines[at][column + 1:], lines[at][:column]])
                bents.append(lines[:at] + [bent] + lines[at + 1:])
            for bent in bents:
                for text in (joined_lines(bent), joined_lines(bent)[:dice.randrange(1, 60)]):
                    told = told_error(text)
                    if told is None:
                        self.assertEqual(read_bench(text).text(), text)
                    else:
                        reasons[told[1]] = reasons.get(told[1], 0) + 1
                        self.check_error(InvalidText, {"line": told[0], "why": told[1]}, read_bench, text)
        self.assertEqual(sorted(reasons), ["form", "missing", "node", "order"])


class ReplayTest(LexiconCase):

    def setUp(self):
        self.bench = bench_with(two=TWO, row=ROW)
        self.bench.do(("up", "a", "row"), ("join", "b", "a", "two"))
        self.bench.limit = 4
        self.bench.do(("drop", "a"))

    def test_journals(self):
        journal = self.bench.journal()
        other = replayed(journal)
        self.assertEqual((other == self.bench, other.journal(), other.steps(), other.log(), other.sessions()), (True, journal, (4, 0), [], []))
        self.assertEqual(replayed(journal=tuple(journal)), self.bench)
        self.assertEqual(journal, self.bench.journal())
        for _ in range(4):
            self.bench.undo()
            other.undo()
            self.assertEqual((other, other.journal()), (self.bench, self.bench.journal()))

    def test_steps_that_are_undone(self):
        self.bench.undo()
        other = replayed(self.bench.journal())
        self.assertEqual((other, other.steps()), (self.bench, (3, 0)))

    def test_empty_journals_and_steps(self):
        self.assertEqual((replayed([]), replayed([]).steps(), replayed([(), ()]).steps()), (Bench(), (0, 0), (0, 0)))
        journal = self.bench.journal()
        self.assertEqual(replayed([(), journal[0], (), *journal[1:], ()]).journal(), journal)

    def test_steps_left_out_and_bent(self):
        journal = self.bench.journal()
        self.check_error(UnknownName, {"name": "row"}, replayed, journal[1:])
        self.check_error(UnknownName, {"name": "a"}, replayed, journal[:1] + journal[2:])
        self.assertEqual(replayed(journal[:2] + journal[3:]).limit, 8)
        self.check_error(InvalidDeed, {"at": 1}, replayed, [journal[0], (("drop", "none"), ("drop",))])
        self.check_error(InvalidDeed, {"at": 0}, replayed, journal + [(None,)])
        self.check_error(Full, {"most": 3}, replayed, journal[:2] + [(("limit", 3),)])
        self.check_error(TooMany, {"count": 61}, replayed, [(("put", "a", chain(61)),), (("mirror", "a", "a"),)])
        self.assertEqual(replayed([journal[0][::-1]]).names(), ["row", "two"])

    def test_sessions_do_not_count(self):
        self.bench.match("two", "two")
        self.bench.mate(0, 0, "b")
        self.bench.say("names")
        other = replayed(self.bench.journal())
        self.assertEqual((other.sessions(), other.log(), other), ([], [], self.bench))

    def test_twins_of_read_benches(self):
        other = read_bench(self.bench.text()).twin()
        self.assertEqual((other, other.steps(), write_bench(other)), (self.bench, (0, 0), write_bench(self.bench)))
        twin = replayed(self.bench.journal()).twin()
        self.assertEqual((twin, twin.journal()), (self.bench, self.bench.journal()))

    def test_random_journals(self):
        dice = random.Random(202)
        bench = Bench()
        for _ in range(80):
            name, other = dice.choice("abcd"), dice.choice("abcd")
            deed = dice.choice([("put", name, dice.choice([TWO, ROW])), ("join", name, other, "a"), ("drop", name), ("limit", dice.randint(1, 12)),
                                ("span", name, other, "a", None), ("fill", name, other, "x", "b")])
            try:
                bench.do(deed)
            except (LexiconError, LookupFailed):
                pass
        self.assertGreater(bench.steps()[0], 20)
        self.assertEqual(replayed(bench.journal()), bench)
        self.assertEqual(read_bench(write_bench(replayed(bench.journal()))), bench)
