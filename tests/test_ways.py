"""First and last ways, and kinds of gap."""

from lexiconlines.books import Book
from lexiconlines.classes import class_letters, class_of
from lexiconlines.errors import UnknownNode
from lexiconlines.ways import first_way, kinds_of_gap, last_way
from tests.support import ANY_VALUES, EMPTY_WORD, NOTHING, ROW, STEP, TWO, LexiconCase, book, chain, random_books, ring

# The first way of 0 is 0, 1, 2, 1 and so on; its last way is 0, 3, 0; 4 and 6 are of no class, 5 is of one of its own.
MANY = book("- a4 b1 d3", "x b2 c0", "- a1", "y a1 c0", "z", "x a6 d5", "-")


class WaysTest(LexiconCase):

    def test_lead_and_ring(self):
        self.assertEqual(first_way(MANY, 0), ([0], [1, 2]))
        self.assertEqual(first_way(MANY, 1), ([], [1, 2]))
        self.assertEqual(first_way(MANY, 2), ([], [2, 1]))
        self.assertEqual(first_way(MANY, 3), ([3], [1, 2]))
        self.assertEqual(first_way(MANY, 5), ([], [5]))
        self.assertEqual(last_way(MANY, 0), ([], [0, 3]))
        self.assertEqual(last_way(MANY, 1), ([1], [0, 3]))
        self.assertEqual(last_way(MANY, 2), ([2, 1], [0, 3]))
        self.assertEqual(last_way(book=MANY, node=3), ([], [3, 0]))
        self.assertEqual(first_way(book=TWO, node=0), ([], [0]))

    def test_long_ways(self):
        self.assertEqual(first_way(ring(200, {7: "x"}), 3), ([], list(range(3, 200)) + [0, 1, 2]))
        nodes = [("x", min(at + 1, 199), 0, None, None) for at in range(200)]
        self.assertEqual(first_way(Book(nodes), 2), (list(range(2, 199)), [199]))
        self.assertEqual(last_way(Book(nodes), 2), ([2], [0]))

    def test_kinds_of_gap(self):
        self.assertEqual(kinds_of_gap(MANY, 2), [(0, "b", "d"), (1, "b", "c"), (3, "a", "c")])
        self.assertEqual(kinds_of_gap(book=MANY, node=5), [])
        self.assertEqual(kinds_of_gap(ROW, 0), [])
        self.assertEqual(kinds_of_gap(book("x a0 c0 d0"), 0), [(0, "a", "c"), (0, "c", "d")])
        self.assertEqual(kinds_of_gap(book("x a0 b0 c0 d0"), 0), [(0, "a", "b"), (0, "b", "c"), (0, "c", "d")])

    def test_nodes_of_no_class(self):
        for call in (first_way, last_way, kinds_of_gap):
            for node in (4, 6):
                self.check_error(UnknownNode, {"node": node}, call, MANY, node)
            for one in (NOTHING, EMPTY_WORD, chain(3), ring(3, {})):
                self.check_error(UnknownNode, {"node": 0}, call, one, 0)

    def test_values_that_are_no_node(self):
        for call in (first_way, last_way, kinds_of_gap):
            for value in ANY_VALUES + [2, 3]:
                if value.__class__ is not int or value not in (0, 1):
                    self.check_error(UnknownNode, {"node": value}, call, STEP, value)

    def test_random_books(self):
        for one, _ in random_books(131, 150, most_nodes=7):
            for node in range(len(one)):
                fellows = class_of(one, node)
                if not fellows:
                    continue
                for call, outer in ((first_way, 0), (last_way, -1)):
                    lead, nodes = call(one, node)
                    self.assertEqual((lead + nodes)[0], node)
                    self.assertEqual(len(set(lead + nodes)), len(lead + nodes))
                    passed = lead + nodes + nodes[:1]
                    for at, further in zip(passed, passed[1:]):
                        self.assertEqual(one.node_at(class_letters(one, at)[outer], start=at), further)
                kinds = []
                for at in fellows:
                    letters = class_letters(one, at)
                    kinds.extend((at, low, high) for low, high in zip(letters, letters[1:]))
                self.assertEqual(kinds_of_gap(one, node), sorted(kinds))

    def test_returned_lists_are_new(self):
        found = first_way(MANY, 0)
        self.assertEqual([found.__class__, found[0].__class__, found[1].__class__], [tuple, list, list])
        found[0].append(9)
        found[1].clear()
        self.assertEqual(first_way(MANY, 0), ([0], [1, 2]))
        last_way(MANY, 2)[0].clear()
        self.assertEqual(last_way(MANY, 2), ([2, 1], [0, 3]))
        kinds_of_gap(MANY, 0).clear()
        self.assertEqual(len(kinds_of_gap(MANY, 0)), 3)
