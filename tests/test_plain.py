"""Plain terms of nodes, and the terms of which those of classes are made."""

from lexiconlines.books import Book
from lexiconlines.classes import class_letters, class_of
from lexiconlines.errors import NoStep, TooMany, UnknownNode
from lexiconlines.keys import Ladder
from lexiconlines.plain import as_term, gap_terms, left_term, right_term, term_of
from lexiconlines.steps import first_word, upward
from lexiconlines.terms import Term
from lexiconlines.ways import first_way, kinds_of_gap, last_way
from tests.support import (
    ANY_VALUES, EMPTY_WORD, NOTHING, ROW, STEP, TWO, LexiconCase, book, chain, random_books, ring)


def told_plain(one, node):
    """The text of the plain term of a node, written word by word as the document tells; empty for the empty term."""
    if not one.has_words(node):
        return ""
    if not class_of(one, node):
        return one.nodes()[node][0] + lines(one, node, "abcd")
    pieces = {piece for piece in told_pieces(one, node) if piece}
    return told_left(one, node) + ("{" + ",".join(sorted(pieces)) + "}" if pieces else "") + told_right(one, node)


def told_pieces(one, node):
    for at, low, high in kinds_of_gap(one, node):
        inner = lines(one, at, [letter for letter in "abcd" if low < letter < high])
        yield told_right(one, one.node_at(low, start=at)) + inner + told_left(one, one.node_at(high, start=at))


def told_left(one, node):
    lead, ring_nodes = first_way(one, node)
    turn = "".join(left_side(one, at) for at in ring_nodes)
    return "".join(left_side(one, at) for at in lead) + (f"({turn})>" if turn else "")


def told_right(one, node):
    lead, ring_nodes = last_way(one, node)
    turn = "".join(right_side(one, at) for at in reversed(ring_nodes))
    return (f"<({turn})" if turn else "") + "".join(right_side(one, at) for at in reversed(lead))


def left_side(one, node):
    first = class_letters(one, node)[0]
    return one.nodes()[node][0] + lines(one, node, [letter for letter in "abcd" if letter < first])


def right_side(one, node):
    last = class_letters(one, node)[-1]
    return lines(one, node, [letter for letter in "abcd" if letter > last])


def lines(one, node, letters):
    children = [one.nodes()[node]["abcd".index(letter) + 1] for letter in letters]
    return "".join(told_plain(one, child) for child in children if child is not None)


def nodes_with_items(many, first):
    """Nodes, numbered from first on, of which the first one has a plain term with so many items."""
    if many == 1:
        return [("x", None, None, None, None)]
    color = "y" if many % 2 else ""
    return [(color, first + 1, first + 1, None, None)] + nodes_with_items(many // 2, first + 1)


class PlainTest(LexiconCase):

    def test_nodes_of_no_class(self):
        one = book("x b1 d2", "y", "- a1 c3 d4", "z a1", "-")
        self.assertEqual([term_of(one, node=node).text() for node in range(5)], ["xyyzy", "y", "yzy", "zy", "0"])
        self.assertEqual([term_of(it).text() for it in (NOTHING, EMPTY_WORD, book("- a0"), chain(200, "z"))], ["0", "y", "0", "z"])

    def test_classes_that_do_not_branch(self):
        for one, text in [
            (book("x a0"), "(x)>"), (book("- a0 b1", "x"), "<(x)"), (ROW, "(x)>"), (book("x a1", "y a0"), "(xy)>"),
            (book("x a1", "y a2", "z a1"), "x(yz)>"), (book("- b1 c2", "x", "y b0 d1"), "(xy)><(x)"), (STEP, "(x)><((x)>)"),
            (ring(3, {0: "x", 2: "z"}), "(xz)>"), (book("x a1", "- a2", "- a1 b3 c3", "z"), "x<(zz)"),
            (book("x a1 d2", "- a1 b2", "z"), "x<(z)z"),
        ]:
            self.assertEqual(term_of(one).text(), text)

    def test_classes_that_branch(self):
        for one, text in [
            (TWO, "(x)>{(x)>}"), (book("x a0 b0 c0"), "(x)>{(x)>}"), (book("- a0 b1 c0", "x"), "{x}"),
            (book("- a0 b1 c0 d2", "x", "y"), "{<(y)x}<(y)"), (book("x a0 b1", "y a0"), "(x)>{y(x)>}"),
            (book("- a1 b0 c0 d2", "x", "z"), "(x)>{<(z)(x)>}<(z)"), (book("- a0 b1 c0 d0", "x a2", "y"), "{xy}"),
        ]:
            self.assertEqual(term_of(one).text(), text)

    def test_nodes(self):
        one = book("x a0 b1", "y a0")
        self.assertEqual([term_of(one, node=node).text() for node in (0, 1)], ["(x)>{y(x)>}", "y(x)>{y(x)>}"])
        self.assertEqual(term_of(book=one, node=0), term_of(one))

    def test_ends_and_gaps(self):
        one = book("- a1 b2 c0 d1", "x", "y a0 c2 d1")
        self.assertEqual([left_term(one, node).text() for node in (0, 2)], ["(xy)>", "(yx)>"])
        self.assertEqual([right_term(one, node).text() for node in (0, 2)], ["<(x)", "<(x)"])
        for node in (0, 2):
            self.assertEqual([term.text() for term in gap_terms(one, node)], ["<(x)(xy)>", "<(x)(yx)>"])
        self.assertEqual([term.text() for term in gap_terms(book("- a0 b1 c0 d0", "x"), 0)], ["x"])
        self.assertEqual(gap_terms(ROW, 0), [])
        self.assertEqual((left_term(book=TWO, node=0), right_term(book=TWO, node=0)), (Term.read("(x)>"), Term.empty()))

    def test_random_books(self):
        for one, _ in random_books(191, 500, most_nodes=6):
            for node in range(len(one)):
                self.assertEqual(term_of(one, node=node).text(), told_plain(one, node) or "0")
                if class_of(one, node):
                    self.assertEqual(left_term(one, node).text(), told_left(one, node) or "0")
                    self.assertEqual(right_term(one, node).text(), told_right(one, node) or "0")
                    texts = [term.text() for term in gap_terms(one, node)]
                    self.assertEqual(texts, sorted(set(told_pieces(one, node)) - {""}))
                else:
                    for call in (left_term, right_term, gap_terms):
                        self.check_error(UnknownNode, {"node": node}, call, one, node)

    def test_first_words(self):
        for one, _ in random_books(192, 300):
            signs, _ = first_signs(term_of(one), 9)
            if signs:
                words = [first_word(one), *upward(one, first_word(one), 8)]
                self.assertEqual([one.color_of(word) for word in words][:len(signs)], signs)
                self.assertTrue(len(signs) == 9 or len(signs) == len(words))
            else:
                with self.assertRaises(NoStep):
                    first_word(one)

    def test_values_that_are_no_node(self):
        for call in (lambda one, node: term_of(one, node=node), left_term, right_term, gap_terms):
            for value in ANY_VALUES + [2, 3]:
                if value.__class__ is not int or value not in (0, 1):
                    self.check_error(UnknownNode, {"node": value}, call, STEP, value)

    def test_as_term(self):
        one = Term.read("x{y}")
        self.assertIs(as_term(one), one)
        self.assertEqual(as_term(line=TWO), term_of(TWO))
        self.check_error(TooMany, {"count": 4000}, as_term, Book(nodes_with_items(4001, 0)))

    def test_returned_lists_are_new(self):
        gap_terms(TWO, 0).clear()
        self.assertEqual(gap_terms(TWO, 0), [Term.read("(x)>")])


def first_signs(term, most):
    """The signs of the first spots of a line, at most so many, as long as there is a next one; and whether it ends."""
    if term.kind == "sign":
        return [term.sign], True
    signs = []
    for part in [term.parts[0]] * most if term.kind == "up" else [] if term.kind in ("down", "shuffle") else term.parts:
        further, ends = first_signs(part, most)
        signs.extend(further)
        if not ends or len(signs) > most:
            return signs[:most], False
    return signs[:most], term.kind in ("sum", "empty")


class ItemsTest(LexiconCase):

    def check_items(self, call, *args, **named):
        self.check_error(TooMany, {"count": 4000}, call, *args, **named)

    def test_nodes_in_a_row(self):
        for many in (1, 7, 3999, 4000):
            self.assertEqual(len(term_of(Book(nodes_with_items(many, 0)))), many)
        for many in (4001, 5000, 10 ** 9, 2 ** 190):
            one = Book(nodes_with_items(many, 0))
            self.check_items(term_of, one)
            self.assertEqual(len(term_of(one, node=len(one) - 5)), len(term_of(Book(nodes_with_items(many >> len(one) - 5, 0)))))

    def test_up_and_down_count(self):
        for many, right in ((3999, True), (4000, False)):
            for start in (("", 1, 0, None, None), ("", 0, 1, None, None)):
                one = Book([start] + nodes_with_items(many, 1))
                self.assertEqual(len(term_of(one, node=1)), many)
                if right:
                    self.assertEqual(len(term_of(one)), 4000)
                else:
                    self.check_items(term_of, one)

    def test_ends_of_classes_one_by_one(self):
        one = Book([("x", 1, 0, 0, None)] + nodes_with_items(3999, 1))
        self.check_items(left_term, one, 0)
        self.assertEqual(right_term(one, 0), Term.empty())
        self.check_items(gap_terms, one, 0)
        one = Book([("", 0, None, 1, None)] + nodes_with_items(4001, 1))
        self.assertEqual(left_term(one, 0), Term.empty())
        self.assertEqual(gap_terms(one, 0), [])
        self.check_items(right_term, one, 0)
        self.check_items(term_of, one)

    def test_gaps_with_short_ends(self):
        # Both ends have 2001 items and the piece in the gap has 4002.
        one = Book([("", 1, 0, 0, 1)] + nodes_with_items(2000, 1))
        self.assertEqual([len(left_term(one, 0)), len(right_term(one, 0))], [2001, 2001])
        self.check_items(gap_terms, one, 0)
        self.check_items(term_of, one)
        # Each piece is short enough, but not the term.
        many = len(nodes_with_items(1400, 0))
        one = Book([("", 0, 1, 0, None)] + nodes_with_items(1400, 1))
        self.assertEqual(len(term_of(one)), 1401)
        rows = nodes_with_items(1400, 3)
        one = Book([("", 0, 3, 1, None), ("x", 0, 3, 2, None), ("y", 0, 3, 0, None)] + rows)
        self.assertEqual(len(rows), many)
        self.assertEqual([len(piece) for piece in gap_terms(one, 0)], [1400, 1401, 1401])
        self.check_items(term_of, one)
        self.assertEqual(len(left_term(one, 1)), 1)

    def test_nodes_of_other_classes(self):
        # The child by a leads to itself and has too many items, but to the right end it does not matter.
        one = Book([("x", 1, 0, 2, None), ("", 3, 1, None, None), ("z", None, None, None, None)] + nodes_with_items(4000, 3))
        self.check_items(left_term, one, 0)
        self.check_items(term_of, one, node=1)
        self.assertEqual(right_term(one, 0).text(), "<(z)")
        self.check_items(Ladder, one)

    def test_wrong_nodes_come_first(self):
        one = Book([("", 0, None, 1, None)] + nodes_with_items(4001, 1))
        for call in (left_term, right_term, gap_terms):
            self.check_error(UnknownNode, {"node": 1}, call, one, 1)
            self.check_error(UnknownNode, {"node": True}, call, one, True)
