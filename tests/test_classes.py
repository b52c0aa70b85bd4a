"""Classes of nodes that lead to one another."""

from lexiconlines.books import Book
from lexiconlines.classes import branches, class_letters, class_of, classes
from lexiconlines.errors import UnknownNode
from tests.support import (ANY_VALUES, EMPTY_WORD, NOTHING, ROW, STEP, TWO, LexiconCase, book, chain, random_books, ring)

# 0 and 2 lead around by way of 4; 1 leads to itself only; 3 is of no class, since nothing leads back;
# 5 leads to itself and has no words; nothing leads to 6 and 7, which lead to one another.
MANY = book("- a1 b2 d4", "x c1 d3", "- a4 b5", "y", "- a2 c0 d1", "- a5", "- a7", "z b6 c6")


class ClassesTest(LexiconCase):

    def test_classes(self):
        self.assertEqual(classes(MANY), [[0, 2, 4], [1], [6, 7]])
        self.assertEqual(classes(book=TWO), [[0]])
        self.assertEqual(classes(ROW), [[0]])
        self.assertEqual(classes(STEP), [[0], [1]])
        self.assertEqual(classes(ring(200, {5: "x"})), [list(range(200))])

    def test_no_classes(self):
        for one in (NOTHING, EMPTY_WORD, chain(200), ring(200, {}), book("- a0", "x")):
            self.assertEqual(classes(one), [])

    def test_classes_are_ascending(self):
        self.assertEqual(classes(book("- a3", "x a1", "y a2", "- a0 b4", "- a2 b1 c4")), [[0, 3], [1], [2], [4]])

    def test_class_of(self):
        self.assertEqual([class_of(MANY, node) for node in range(8)],
                         [[0, 2, 4], [1], [0, 2, 4], [], [0, 2, 4], [], [6, 7], [6, 7]])
        self.assertEqual(class_of(book=MANY, node=1), [1])

    def test_class_letters(self):
        self.assertEqual([class_letters(MANY, node) for node in range(8)],
                         ["bd", "c", "a", "", "ac", "", "a", "bc"])
        self.assertEqual(class_letters(book=book("x a0 b0 c0 d0"), node=0), "abcd")

    def test_branches(self):
        self.assertEqual([branches(MANY, node) for node in range(8)],
                         [True, False, True, False, True, False, True, True])
        self.assertIs(branches(book=STEP, node=0), False)
        self.assertIs(branches(TWO, 0), True)
        self.assertIs(branches(book("x a1", "- a0 b0"), 0), True)

    def test_values_that_are_no_node(self):
        for call in (class_of, class_letters, branches):
            for value in ANY_VALUES + [2, 3]:
                if value.__class__ is not int or value not in (0, 1):
                    self.check_error(UnknownNode, {"node": value}, call, STEP, value)
            self.check_error(UnknownNode, {"node": 200}, call, chain(200), 200)
            self.check_error(UnknownNode, {"node": False}, call, NOTHING, False)

    def test_random_books(self):
        for one, _ in random_books(111, 200, most_nodes=7):
            many = len(one)
            led = [self.led_to(one, node) for node in range(many)]
            for node in range(many):
                fellows = [other for other in range(many)
                           if one.has_words(node) and other in led[node] and node in led[other]]
                self.assertEqual(class_of(one, node), fellows)
                letters = [letter for letter, child in zip("abcd", one.nodes()[node][1:]) if child in fellows]
                self.assertEqual(class_letters(one, node), "".join(letters))
                self.assertIs(branches(one, node), any(len(class_letters(one, other)) > 1 for other in fellows))
            every = [class_of(one, node) for node in range(many)]
            self.assertEqual(classes(one), sorted(fellows for node, fellows in enumerate(every) if fellows[:1] == [node]))

    @staticmethod
    def led_to(one, node):
        """The nodes to which some string of at least one letter leads from a node."""
        found = set()
        front = [node]
        while front:
            for child in one.nodes()[front.pop()][1:]:
                if child is not None and child not in found:
                    found.add(child)
                    front.append(child)
        return found

    def test_returned_lists_are_new(self):
        one = Book(MANY.nodes())
        first = classes(one)
        first[0].clear()
        first.pop()
        self.assertEqual(classes(one), [[0, 2, 4], [1], [6, 7]])
        class_of(one, 0).clear()
        self.assertEqual(class_of(one, 0), [0, 2, 4])
