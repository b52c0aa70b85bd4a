"""Line books: books of terms, and of sums, repetitions, shuffles, mirrors and fillings of books."""

import random

from lexiconlines.books import Book
from lexiconlines.errors import InvalidColor, TooMany
from lexiconlines.keys import key_of, same_line
from lexiconlines.machines import book_of, filled, joined, mirrored, repeated, shuffled
from lexiconlines.plain import term_of
from lexiconlines.terms import Term, mirrored_sign
from tests.support import (
    EMPTY_WORD, NOTHING, ROW, STEP, TWO, LexiconCase, book, chain, random_book, random_books, random_term, ring, total)


class MachinesCase(LexiconCase):

    def check_line(self, made, term, *given):
        """Checks that a line book has the line of a term, and no more nodes and items than it may have."""
        self.assertIsInstance(made, Book)
        self.assertEqual(key_of(made), key_of(term))
        self.assertLessEqual(len(term_of(made)), len(term))
        if given:
            self.assertLessEqual(len(made), 3 * sum(len(one) for one in given) + 8)
        else:
            self.assertLessEqual(len(made), 200)


class BookOfTest(MachinesCase):

    def test_terms(self):
        for text in ("0", "x", "xyz", "xyzxyzx", "(x)>", "<(xy)", "{x}", "{x,y,z,xy,xz,yz}", "((x)><(y))>", "{{x}y,(z{x})>}",
                     "<({(x)>})x{y}", "x" * 40, "{" + ",".join("x" * many for many in range(1, 9)) + "}"):
            self.check_line(book_of(Term.read(text)), Term.read(text))
        self.assertEqual(book_of(term=Term.empty()).has_words(), False)

    def test_items(self):
        deep = Term.spot("x")
        for at in range(39):
            deep = deep.up() if at % 3 else Term.shuffle(deep)
        for term in (Term.spot("x") * 40, deep, Term.read("{x,y,xy,xyx}" * 5)):
            self.assertEqual(len(term), 40)
            self.assertLessEqual(len(book_of(term)), 200)
            self.assertEqual(term_of(book_of(term)), term)
            self.check_error(TooMany, {"count": 41}, book_of, term + Term.spot("z"))
        self.check_error(TooMany, {"count": 80}, book_of, Term.spot("x") * 40 * 2)

    def test_random_terms(self):
        dice = random.Random(201)
        for _ in range(200):
            term = random_term(dice, 4, "xyz")
            if len(term) <= 40:
                self.check_line(book_of(term), term)


class OperationsTest(MachinesCase):

    def test_sums(self):
        self.check_line(joined(), Term.empty())
        self.check_line(joined(TWO), term_of(TWO), TWO)
        self.check_line(joined(ROW, STEP), term_of(ROW) + term_of(STEP), ROW, STEP)
        self.check_line(joined(STEP, ROW), term_of(STEP) + term_of(ROW), STEP, ROW)
        many = [EMPTY_WORD, TWO, NOTHING, STEP, ROW, EMPTY_WORD, EMPTY_WORD, ROW, TWO] * 3
        self.check_line(joined(*many), total(*map(term_of, many)), *many)
        self.check_line(joined(TWO, TWO), term_of(TWO) + term_of(TWO), TWO, TWO)

    def test_repetitions(self):
        for one in (TWO, STEP, ROW, NOTHING, EMPTY_WORD):
            self.check_line(repeated(one), term_of(one).up(), one)
            self.check_line(repeated(book=one, down=True), term_of(one).down(), one)
        self.check_line(repeated(one, down=False), term_of(one).up(), one)

    def test_shuffles(self):
        self.check_line(shuffled(), Term.empty())
        self.check_line(shuffled(NOTHING, NOTHING), Term.empty(), NOTHING, NOTHING)
        self.check_line(shuffled(EMPTY_WORD), Term.read("{y}"), EMPTY_WORD)
        many = [TWO, ROW, NOTHING, STEP, ROW, EMPTY_WORD] * 3
        self.check_line(shuffled(*many), Term.shuffle(*map(term_of, many)), *many)

    def test_mirrors(self):
        for one in (TWO, STEP, ROW, NOTHING, EMPTY_WORD, book("x a0 b1 c2 d3", "y a0 b0 c0 d0", "z a1", "- a0 d2")):
            self.check_line(mirrored(one), -term_of(one), one)
            self.check_line(mirrored(book=mirrored(one)), term_of(one), mirrored(one))

    def test_fillings(self):
        one = book("x a0 b1 c2 d3", "y a0 b0 c0 d0", "z a1", "- a0 d2")
        for fills in ({}, {"x": TWO}, {"x": NOTHING}, {"x": EMPTY_WORD, "y": one}, {"z": ROW, "y": NOTHING, "x": STEP},
                      {"x": NOTHING, "y": NOTHING, "z": NOTHING}, {"y": STEP, "z": STEP}):
            terms = {color: term_of(other) for color, other in fills.items()}
            self.check_line(filled(one, **fills), term_of(one).filled(**terms), one, *fills.values())
        self.assertEqual(key_of(filled(book=STEP, x=STEP)), key_of(term_of(STEP).filled(x=term_of(STEP))))
        self.assertEqual(term_of(filled(EMPTY_WORD, y=NOTHING)), Term.empty())

    def test_random_books(self):
        dice = random.Random(202)
        books = [random_book(dice, 6, "abcd", dice.choice([0.3, 0.5]), dice.choice([0.2, 0.5, 0.9])) for _ in range(150)]
        books += [one for one, _ in random_books(203, 150)]
        for one in books:
            other, third = dice.choice(books), dice.choice(books)
            terms = term_of(one), term_of(other), term_of(third)
            if sum(map(len, terms)) > 400:
                continue
            self.check_line(joined(one, other, third), total(*terms), one, other, third)
            self.check_line(repeated(one), terms[0].up(), one)
            self.check_line(repeated(one, down=True), terms[0].down(), one)
            self.check_line(shuffled(one, other, third), Term.shuffle(*terms), one, other, third)
            self.check_line(mirrored(one), -terms[0], one)
            self.check_line(filled(one, x=other, z=third), terms[0].filled(x=terms[1], z=terms[2]), one, other, third)
            self.assertEqual(key_of(mirrored(one)), mirrored_sign(key_of(one)) if one.has_words() else "0")
            self.assertIs(same_line(mirrored(mirrored(one)), one), True)


class BoundsTest(LexiconCase):

    def test_given_nodes(self):
        half, more = ring(30, {4: "x"}), chain(31, "y")
        for call, count in ((lambda: joined(half, more), 61), (lambda: joined(half, more, half), 91), (lambda: repeated(chain(61)), 61),
                            (lambda: repeated(chain(200), down=True), 200), (lambda: shuffled(more, half), 61),
                            (lambda: shuffled(half, half, EMPTY_WORD), 61), (lambda: mirrored(ring(61, {0: "x"})), 61),
                            (lambda: filled(half, x=more), 61), (lambda: filled(half, x=half, y=half), 90),
                            (lambda: filled(chain(61)), 61)):
            self.check_error(TooMany, {"count": count}, call)
        for made in (joined(half, half), repeated(chain(60)), shuffled(half, half), shuffled(*[NOTHING] * 60), joined(*[EMPTY_WORD] * 60),
                     mirrored(ring(60, {0: "x", 1: "y"})), filled(half, x=half), filled(chain(59), x=NOTHING)):
            self.assertLessEqual(len(made), 188)
        self.assertEqual(len(term_of(joined(*[EMPTY_WORD] * 60))), 60)

    def test_full_books_stay_in_bounds(self):
        full = Book([("xyz"[at % 3], (at + 1) % 60, (at * 7) % 60, (at * 11) % 60, (at * 13) % 60) for at in range(60)])
        self.assertLessEqual(len(mirrored(full)), 188)
        self.assertEqual(key_of(mirrored(full)), mirrored_sign(key_of(full)))
        full = Book([("xyz"[at % 3], (at + 1) % 59, (at * 7) % 59, (at * 11) % 59, (at * 13) % 59) for at in range(59)])
        self.assertLessEqual(len(filled(full, x=EMPTY_WORD)), 188)

    def test_keywords_that_are_no_colors(self):
        self.check_error(InvalidColor, {"color": "w"}, filled, TWO, x=TWO, w=TWO, v=TWO)
        self.check_error(InvalidColor, {"color": "xy"}, filled, chain(61), xy=TWO)

    def test_arguments_stay(self):
        nodes = STEP.nodes()
        for call in (joined, repeated, shuffled, mirrored, filled):
            self.assertEqual(call(STEP), call(STEP))
            self.assertEqual(STEP.nodes(), nodes)
