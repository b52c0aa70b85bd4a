"""Deeds: their form, and the books that they make."""

from lexiconlines.books import Book
from lexiconlines.deeds import is_deed, made_by
from lexiconlines.errors import TooMany, UnknownName
from lexiconlines.keys import key_of
from lexiconlines.languages import over, without
from lexiconlines.least import least
from lexiconlines.machines import filled, joined, mirrored, repeated
from lexiconlines.plain import term_of
from lexiconlines.spans import between
from lexiconlines.terms import Term
from tests.support import ANY_VALUES, EMPTY_WORD, NOTHING, ROW, STEP, TWO, LexiconCase, chain, random_books

BOOKS = {"two": TWO, "row": ROW, "step": STEP, "none": NOTHING, "y": EMPTY_WORD}
DEEDS = [
    ("put", "new", TWO), ("join", "new", "two", "row"), ("up", "new", "two"), ("down", "new", "step"), ("mirror", "new", "row"),
    ("fill", "new", "two", "x", "row"), ("span", "new", "two", "a", "bb"), ("drop_color", "new", "two", "x"), ("over", "new", "two", "row"),
    ("drop", "two"), ("limit", 7),
]
# What can stand in each place of the deeds above, by the letters n, b, c, w and l.
PLACES = {"put": "nb", "join": "nnn", "up": "nn", "down": "nn", "mirror": "nn", "fill": "nncn", "span": "nnww", "drop_color": "nnc",
          "over": "nnn", "drop": "n", "limit": "l"}
RIGHT = {"n": ["a", "z", "abcdef", "zzzzzz", "limit"], "b": [TWO, NOTHING, chain(200)], "c": ["x", "y", "z"],
         "w": [None, "", "a", "d" * 40, "abcd"], "l": [1, 2, 11, 12]}
WRONG = {"n": ["", "abcdefg", "A", "a1", "a b", "a_", "-", None, 1, True, ["a"], ("a",), TWO, "a\n"],
         "b": [None, "x\n", Term.spot("x"), ("x", None, None, None, None), [TWO], (TWO,), 1, "two", True],
         "c": ["", "w", "X", "xy", None, 1, True, ["x"], ("x",), TWO], "w": ["e", "a" * 41, "A", "x", "a ", 1, True, False, ["a"], ("a",), TWO, 0],
         "l": [0, 13, -1, True, False, None, "8", (8,), 10 ** 30]}


class FormTest(LexiconCase):

    def test_deeds(self):
        for deed in DEEDS:
            self.assertIs(is_deed(deed), True, deed)
        self.assertIs(is_deed(value=DEEDS[0]), True)

    def test_each_place(self):
        for deed in DEEDS:
            for at, place in enumerate(PLACES[deed[0]]):
                for values, told in ((RIGHT[place], True), (WRONG[place], False)):
                    for value in values:
                        bent = deed[:at + 1] + (value,) + deed[at + 2:]
                        self.assertIs(is_deed(bent), told, bent)

    def test_parts_too_few_or_too_many(self):
        for deed in DEEDS:
            for value in (deed[:-1], deed + ("a",), deed + (None,), deed + (TWO,), deed[1:], list(deed), (deed,), (deed[0], deed[1:]), [deed]):
                self.assertIs(is_deed(value), False, value)

    def test_kinds(self):
        for kind in ("Put", "puts", "undo", "filled", "recolor", "", "shuffle", None, 1, ("put",), ["put"]):
            for deed in DEEDS:
                self.assertIs(is_deed((kind, *deed[1:])), False)

    def test_values_of_all_kinds(self):
        for value in ANY_VALUES:
            self.assertIs(is_deed(value), value in [("drop", "two"), ("put", "two", TWO)], value)


class MadeTest(LexiconCase):

    def test_books(self):
        for deed, told in [
            (DEEDS[0], TWO), (("put", "a", NOTHING), NOTHING), (("join", "a", "two", "row"), joined(TWO, ROW)),
            (("join", "row", "row", "row"), joined(ROW, ROW)), (("up", "a", "two"), repeated(TWO)), (("down", "a", "row"), repeated(ROW, down=True)),
            (("mirror", "a", "step"), mirrored(STEP)), (("fill", "a", "two", "x", "row"), filled(TWO, x=ROW)),
            (("fill", "a", "two", "y", "row"), filled(TWO, y=ROW)), (("fill", "a", "y", "y", "none"), filled(EMPTY_WORD, y=NOTHING)),
            (("span", "a", "two", "a", "bb"), between(TWO, low="a", high="bb")), (("span", "a", "two", None, "b"), between(TWO, high="b")),
            (("span", "a", "row", "c", None), between(ROW, low="c")), (("span", "a", "y", None, None), least(EMPTY_WORD)),
            (("drop_color", "a", "y", "y"), without(EMPTY_WORD, "y")), (("drop_color", "a", "y", "x"), EMPTY_WORD),
            (("over", "a", "y", "two"), over(EMPTY_WORD, TWO)), (("over", "a", "two", "y"), over(TWO, EMPTY_WORD)),
        ]:
            self.assertEqual(made_by(deed, BOOKS), told, deed)
        self.assertEqual(made_by(deed=DEEDS[1], books=BOOKS), joined(TWO, ROW))
        self.assertEqual(BOOKS, {"two": TWO, "row": ROW, "step": STEP, "none": NOTHING, "y": EMPTY_WORD})

    def test_lines_and_bounds(self):
        for one, _ in random_books(181, 40, most_nodes=5):
            for other in (TWO, STEP, EMPTY_WORD):
                books = {"p": one, "q": other}
                terms = {name: term_of(held) for name, held in books.items()}
                for deed, term in [
                    (("join", "n", "p", "q"), terms["p"] + terms["q"]), (("up", "n", "p"), terms["p"].up()), (("down", "n", "p"), terms["p"].down()),
                    (("mirror", "n", "p"), -terms["p"]), (("fill", "n", "p", "y", "q"), terms["p"].filled(y=terms["q"])),
                ]:
                    made = made_by(deed, books)
                    self.assertEqual(key_of(made), key_of(term))
                    self.assertLessEqual(len(term_of(made)), len(term))
                    given = sum(len(books[name]) for name in deed[2:] if name in books)
                    self.assertLessEqual(len(made), 3 * given + 8)
                for deed in [("span", "n", "p", "a", "b"), ("drop_color", "n", "p", "x"), ("over", "n", "q", "p")]:
                    made = made_by(deed, books)
                    self.assertEqual(made, least(made))

    def test_unknown_names(self):
        for deed, name in [
            (("join", "two", "p", "q"), "p"), (("join", "a", "two", "q"), "q"), (("join", "a", "p", "two"), "p"), (("up", "a", "b"), "b"),
            (("down", "two", "b"), "b"), (("mirror", "a", "a"), "a"), (("fill", "a", "p", "x", "q"), "p"), (("fill", "a", "two", "x", "q"), "q"),
            (("span", "a", "b", None, None), "b"), (("drop_color", "a", "b", "x"), "b"), (("over", "a", "p", "q"), "p"), (("over", "a", "row", "q"), "q"),
        ]:
            self.check_error(UnknownName, {"name": name}, made_by, deed, BOOKS)
            self.check_error(UnknownName, {"name": name}, made_by, deed, {name: TWO for name in ("two", "row")})

    def test_given_nodes(self):
        books = {"p": chain(60), "q": EMPTY_WORD, "r": chain(59), "s": chain(61), "t": chain(30), "u": chain(31), "v": NOTHING}
        for deed in [("up", "n", "p"), ("down", "n", "p"), ("mirror", "n", "p"), ("join", "n", "r", "q"), ("join", "n", "t", "t"),
                     ("fill", "n", "r", "x", "q"), ("fill", "n", "t", "z", "t"), ("span", "n", "s", "a", None), ("over", "n", "s", "p")]:
            self.assertIs(made_by(deed, books).__class__, Book)
        for deed, count in [
            (("up", "n", "s"), 61), (("down", "n", "s"), 61), (("mirror", "n", "s"), 61), (("join", "n", "p", "q"), 61), (("join", "n", "v", "p"), 61),
            (("join", "n", "t", "u"), 61), (("join", "n", "u", "u"), 62), (("fill", "n", "p", "x", "q"), 61), (("fill", "n", "t", "z", "u"), 61),
        ]:
            self.check_error(TooMany, {"count": count}, made_by, deed, books)
        self.check_error(UnknownName, {"name": "none"}, made_by, ("join", "n", "s", "none"), books)

    def test_exact_books_that_are_too_great(self):
        ring = [("x" if at == 0 else "", (at + 1) % 150, None, None, None) for at in range(150)]
        other = [("y" if at == 0 else "", (at + 1) % 149, None, None, None) for at in range(149)]
        self.check_error(TooMany, {"count": 150 * 149}, made_by, ("over", "n", "p", "q"), {"p": Book(ring), "q": Book(other)})
        long = {"p": Book([("x", 0, at + 1, 0, None) for at in range(199)] + [("x", 199, 199, None, None)])}
        with self.assertRaises(TooMany) as caught:
            made_by(("span", "n", "p", "b" * 40, None), long)
        self.assertGreater(caught.exception.count, 200)
