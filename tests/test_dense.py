"""Dense parts of lines, and the tuples that show them."""

import itertools

from lexiconlines.books import Book
from lexiconlines.classes import branches
from lexiconlines.dense import dense_paper, has_dense, is_dense
from lexiconlines.plain import term_of
from lexiconlines.terms import Term
from tests.support import ANY_VALUES, EMPTY_WORD, NOTHING, ROW, STEP, TWO, LexiconCase, book, chain, grown, random_books, ring


def rows_between(x, y, y2, g, most):
    """All strings x u g, where u is a row of at most so many copies of y and y2."""
    for many in range(most + 1):
        for row in itertools.product((y, y2), repeat=many):
            yield x + "".join(row) + g


class HasDenseTest(LexiconCase):

    def test_books(self):
        for one in (TWO, book("- a0 b1 c0", "x"), book("x a1", "- a0 b1")):
            self.assertIs(has_dense(one), True)
        for one in (NOTHING, EMPTY_WORD, ROW, STEP, chain(200), ring(200, {3: "x"}), book("- a0 b0"), book("x c1", "- a1 b1"),
                    book("x", "x a1 b1")):
            self.assertIs(has_dense(one), False)
        self.assertIs(has_dense(line=TWO), True)

    def test_terms(self):
        for text in ("{x}", "x(y{x})>", "<((x{y,z})>)"):
            self.assertIs(has_dense(Term.read(text)), True)
        for text in ("0", "x", "(x)>(x)>", "<((xy)>)x"):
            self.assertIs(has_dense(Term.read(text)), False)
        self.assertIs(has_dense(grown(200, lambda one, at: one.up())), False)
        self.assertIs(has_dense(grown(200, lambda one, at: one.up() if at else Term.shuffle(one))), True)

    def test_books_whose_terms_are_too_great(self):
        rows = [("", at + 1, at + 1, None, None) for at in range(40)]
        self.assertIs(has_dense(Book(rows + [("x", None, None, None, None)])), False)
        self.assertIs(has_dense(Book(rows + [("x", 40, 40, None, None)])), True)

    def test_random_books(self):
        met = [0, 0]
        for one, _ in random_books(231, 400, most_nodes=6):
            told = "{" in term_of(one).text()
            self.assertIs(has_dense(one), told)
            self.assertIs(has_dense(term_of(one)), told)
            self.assertIs(any(branches(one, node) for node in one.live()), told)
            met[told] += 1
        self.assertGreater(min(met), 50)


class PaperTest(LexiconCase):

    def test_papers(self):
        for one in (TWO, book("- a0 b1 c0", "x"), book("x d1", "- b2 c2", "- a1", "z"), book("- a3 d4", "x", "-", "- c0 d3", "y b0")):
            paper = dense_paper(one)
            if has_dense(one):
                self.check_paper(one, paper)
            else:
                self.assertIsNone(paper)
        self.assertEqual(dense_paper(book=TWO), dense_paper(TWO))
        self.assertIsNone(dense_paper(STEP))

    def check_paper(self, one, paper):
        self.assertEqual((paper.__class__, len(paper)), (tuple, 4))
        self.assertIs(is_dense(one, paper), True)
        x, y, y2, g = paper
        self.assertTrue(y < g <= y2 and not g.startswith(y))
        words = sorted(rows_between(x, y, y2, g, 4))
        for word in words:
            self.assertIn(word, one)
        # Between any two neighbors there is a longer one.
        more = set(rows_between(x, y, y2, g, 7))
        for low, high in zip(words, words[1:]):
            self.assertTrue(any(low < word < high for word in more))

    def test_random_papers(self):
        met = 0
        for one, _ in random_books(232, 300, most_nodes=6):
            if has_dense(one):
                self.check_paper(one, dense_paper(one))
                met += 1
            else:
                self.assertIsNone(dense_paper(one))
        self.assertGreater(met, 50)

    def test_great_books(self):
        nodes = [("", (at + 1) % 200, None, None, None) for at in range(200)]
        nodes[7] = ("", 8, 100, None, 8)
        nodes[150] = ("x", 151, None, None, None)
        one = Book(nodes)
        self.assertIs(is_dense(one, dense_paper(one)), True)


class IsDenseTest(LexiconCase):

    def test_tuples(self):
        for value in [("", "a", "b", "b"), ("", "a", "bb", "b"), ("ab", "aa", "bab", "ab"),
                      ("", "a", "ba", "b"), ("", "ab", "b", "b"), ("b" * 100, "a", "bbba", "bbb")]:
            self.assertIs(is_dense(TWO, value), True, value)

    def test_tuples_with_one_string_bent(self):
        for value in [
            ("", "a", "b", "ab"), ("", "a", "b", "a"), ("", "b", "b", "b"), ("", "b", "a", "b"), ("", "a", "b", ""), ("", "", "b", "a"),
            ("", "a", "", "b"), ("", "a", "a", "b"), ("", "a", "b", "ba"), ("c", "a", "b", "b"), ("", "c", "b", "b"), ("", "a", "bc", "b"),
            ("", "a", "b", "c"), ("", "a", "c", "b"), ("", "ab", "b", "a"), ("", "ab", "b", "ab"), ("", "a", "b", "bb"),
        ]:
            self.assertIs(is_dense(TWO, value), False, value)

    def test_equal_strings(self):
        one = book("- a0 b0 c1", "x")
        self.assertIs(is_dense(one, ("", "a", "b", "c")), False)
        self.assertIs(is_dense(one, ("", "a", "b", "ac")), False)
        self.assertIs(is_dense(one, ("", "aa", "b", "ac")), True)
        self.assertIs(is_dense(one, ("", "ac", "b", "ac")), False)
        self.assertIs(is_dense(book("x a0 b0"), ("", "a", "b", "b")), True)

    def test_all_rows_must_be_words(self):
        # Behind b no a leads back, and behind a and b in turn the color is lost.
        self.assertIs(is_dense(book("x a0 b1", "x b1"), ("", "a", "b", "b")), False)
        self.assertIs(is_dense(book("x a0 b1", "- a0 b0"), ("", "a", "bb", "b")), False)
        self.assertIs(is_dense(book("x a0 b1", "- a0 b0"), ("", "a", "bb", "ba")), True)
        self.assertIs(is_dense(book("- a1 b0 c2", "- a0 b0", "x"), ("", "a", "b", "ac")), False)

    def test_last_strings_that_lead_nowhere(self):
        self.assertIs(is_dense(book("x a0 d0"), ("", "a", "d", "c")), False)
        self.assertIs(is_dense(book("x a0 c1 d0", "-"), ("", "a", "d", "c")), False)
        self.assertIs(is_dense(book("x a0 c1 d0", "y"), ("", "a", "d", "c")), True)
        self.assertIs(is_dense(book("x a0 c1 d2", "y", "z a0 d0"), ("", "a", "d", "c")), False)

    def test_values_of_all_kinds(self):
        for value in ANY_VALUES + [["", "a", "b", "b"], ("", "a", "b"), ("", "a", "b", "b", ""), (None, "a", "b", "b"), ("", 1, "b", "b"),
                                   ("", "a", ["b"], "b"), ("", "a", "b", True), ("", "a", "b", "e"), ("x", "a", "b", "b"), "aabb"]:
            self.assertIs(is_dense(TWO, value), False, value)
        self.assertIs(is_dense(book=TWO, value=("", "a", "b", "b")), True)

    def test_all_short_tuples(self):
        one = book("x a0 b1", "- a1 b0")
        words = ["".join(row) for many in range(3) for row in itertools.product("ab", repeat=many)]
        for x, y, y2, g in itertools.product(words, repeat=4):
            told = y < g <= y2 and not g.startswith(y) and all(word in one for word in rows_between(x, y, y2, g, 3))
            self.assertIs(is_dense(one, (x, y, y2, g)), told)
