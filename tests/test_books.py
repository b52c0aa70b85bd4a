"""Books: the constructor and all methods but the reading of texts."""

from lexiconlines.books import Book
from lexiconlines.errors import InvalidNode, InvalidWord, NoWord, TooMany
from tests.support import (ANY_VALUES, EMPTY_WORD, NOTHING, ROW, TWO, LexiconCase, begun_at, book, chain,
                           random_books, ring, strings, words_of)

BARE = ("", None, None, None, None)


class ConstructorTest(LexiconCase):

    def test_lists_and_tuples(self):
        nodes = [("x", 0, 1, None, None), ("", None, None, None, 0)]
        self.assertEqual(Book(nodes).nodes(), nodes)
        self.assertEqual(Book(tuple(nodes)).nodes(), nodes)
        self.assertEqual(Book(nodes=nodes), Book(nodes))

    def test_values_that_are_no_list(self):
        for value in [None, True, False, 0, 5, "", "x\n", [], (), TWO, {}]:
            self.check_error(InvalidNode, {"at": -1}, Book, value)

    def test_at_most_200_nodes(self):
        self.assertEqual(len(Book([BARE])), 1)
        self.assertEqual(len(Book([BARE] * 200)), 200)
        self.assertEqual(len(Book((BARE,) * 200)), 200)
        self.check_error(TooMany, {"count": 201}, Book, [BARE] * 201)
        self.check_error(TooMany, {"count": 600}, Book, (BARE,) * 600)

    def test_too_many_ahead_of_wrong_nodes(self):
        self.check_error(TooMany, {"count": 201}, Book, [None] * 201)
        self.check_error(InvalidNode, {"at": 0}, Book, [None] * 200)

    def test_values_that_are_no_node(self):
        for value in ANY_VALUES:
            if value != ("x", None, None, None, None):
                self.check_error(InvalidNode, {"at": 1}, Book, [BARE, value, None])
                self.check_error(InvalidNode, {"at": 1}, Book, (BARE, value, None))

    def test_wrong_items_of_nodes(self):
        for color in [None, True, 0, "w", "X", "xy", "-", "xyz", ("x",), ["x"], TWO]:
            self.check_error(InvalidNode, {"at": 0}, Book, [(color, None, None, None, None)])
        for child in [True, False, -1, 2, 200, 10 ** 30, "0", "", (0,), [0], TWO]:
            for place in range(1, 5):
                node = ["x", None, None, None, None]
                node[place] = child
                self.check_error(InvalidNode, {"at": 1}, Book, [BARE, tuple(node)])

    def test_lengths_of_nodes(self):
        for node in [(), ("x",), ("x", None, None, None), ("x", None, None, None, None, None)]:
            self.check_error(InvalidNode, {"at": 0}, Book, [node])

    def test_colors_and_children_that_are_right(self):
        for color in ["", "x", "y", "z"]:
            nodes = [(color, 0, 1, None, 1), BARE]
            self.assertEqual(Book(nodes).nodes(), nodes)

    def test_the_first_wrong_node_counts(self):
        self.check_error(InvalidNode, {"at": 2}, Book, [BARE, BARE, ("x", 5, None, None, None), None, ()])

    def test_the_list_is_copied(self):
        nodes = [("x", 0, None, None, None)]
        one = Book(nodes)
        nodes[0] = BARE
        nodes.append(BARE)
        self.assertEqual(one.nodes(), [("x", 0, None, None, None)])
        self.assertIn("aa", one)

    def test_returned_lists_are_new(self):
        one = book("x a0 b1", "y")
        for told in (one.nodes, one.live):
            first = told()
            self.assertIs(first.__class__, list)
            first.clear()
            self.assertEqual(len(told()), 2)
        self.assertIn("ab", one)


class WalkTest(LexiconCase):

    def test_node_at(self):
        one = book("x a0 b1", "- c2", "y d1")
        for word, node in {"": 0, "a": 0, "aab": 1, "bc": 2, "bcd": 1, "bcdc": 2, "c": None, "bb": None,
                           "ca": None}.items():
            self.assertEqual(one.node_at(word), node, word)
        self.assertEqual(one.node_at("c", start=1), 2)
        self.assertEqual(one.node_at("", start=2), 2)
        self.assertIsNone(one.node_at("a", start=2))
        self.assertEqual(one.node_at(word="b", start=0), 1)

    def test_color_of(self):
        one = book("x a0 b1", "- c2", "y d1")
        for word, color in {"": "x", "a": "x", "b": "", "bc": "y", "bcd": "", "d": "", "da": ""}.items():
            self.assertEqual(one.color_of(word), color, word)
        self.assertEqual(TWO.color_of("ab" * 1000), "x")

    def test_check(self):
        one = book("x a0 b1", "- c2", "y d1", "-")
        self.assertEqual(one.check(""), "x")
        self.assertEqual(one.check("bc"), "y")
        for word, place in {"b": 1, "bcd": 3, "c": 0, "cab": 0, "ba": 1, "bcab": 2, "aaad": 3, "aaab": 4}.items():
            self.check_error(NoWord, {"word": word, "place": place}, one.check, word)
        self.check_error(NoWord, {"word": "", "place": 0}, NOTHING.check, "")

    def test_check_and_nodes_without_words(self):
        one = book("x a1", "- b1")
        self.check_error(NoWord, {"word": "a", "place": 1}, one.check, "a")
        self.check_error(NoWord, {"word": "abba", "place": 3}, one.check, "abba")

    def test_strings_that_are_no_letters(self):
        for value in ANY_VALUES:
            if not isinstance(value, str) or value.strip("abcd"):
                self.check_error(InvalidWord, {"word": value}, TWO.color_of, value)
                self.check_error(InvalidWord, {"word": value}, TWO.check, value)
                self.assertIs(value in TWO, False)

    def test_words_beyond_40_letters(self):
        self.assertEqual(TWO.color_of("ab" * 2000), "x")
        self.assertEqual(TWO.check("a" * 41), "x")
        self.assertIs("b" * 41 in TWO, True)
        self.check_error(NoWord, {"word": "b" * 4000, "place": 4000}, ROW.check, "b" * 4000)

    def test_in(self):
        self.assertIs("" in TWO, True)
        self.assertIs("ab" in TWO, True)
        self.assertIs("abc" in TWO, False)
        self.assertIs("b" in ROW, False)
        self.assertIs("ba" in ROW, True)
        for value in [None, True, 0, (), [], ("a",), ["a"], TWO, "x"]:
            self.assertIs(value in TWO, False)

    def test_random_books(self):
        for one, letters in random_books(11, 60):
            words = words_of(one, letters, 4)
            for word in strings("abcd", 4):
                self.assertEqual(one.color_of(word), words.get(word, ""))
                self.assertEqual(word in one, word in words)
                if word in words:
                    self.assertEqual(one.check(word), words[word])
                else:
                    places = [at for at in range(len(word)) if one.node_at(word[:at + 1]) is None]
                    told = {"word": word, "place": places[0] if places else len(word)}
                    self.check_error(NoWord, told, one.check, word)


class NodesTest(LexiconCase):

    def test_live(self):
        # 2 has no words; 3 has words, but no string leads to it; 4 is reached only by way of 3.
        one = book("- a1 b2", "x a0", "- a2", "y a4", "z")
        self.assertEqual(one.live(), [0, 1])
        self.assertEqual(NOTHING.live(), [])
        self.assertEqual(EMPTY_WORD.live(), [0])
        self.assertEqual(book("- a2", "x", "- d1").live(), [0, 1, 2])
        self.assertEqual(book("- a1", "- a0", "x").live(), [])

    def test_has_words(self):
        one = book("- a1 b2", "x a0", "- a2", "y a4", "z")
        self.assertEqual([one.has_words(node) for node in range(5)], [True, True, False, True, True])
        self.assertIs(one.has_words(), True)
        self.assertIs(one.has_words(node=2), False)
        self.assertIs(NOTHING.has_words(), False)
        self.assertIs(ring(200, {199: "y"}).has_words(0), True)

    def test_random_books(self):
        for one, letters in random_books(12, 60):
            led_to = [one.node_at(word) for word in strings(letters, 4)]
            fed = [node for node in range(len(one)) if words_of(begun_at(one, node), letters, 5)]
            self.assertEqual([node for node in range(len(one)) if one.has_words(node)], fed)
            self.assertEqual(one.live(), [node for node in fed if node in led_to])


class ObjectTest(LexiconCase):

    def test_text(self):
        one = Book([("", 1, None, 0, None), ("z", None, None, None, 1)])
        self.assertEqual(one.text(), "- a1 c0\nz d1\n")
        self.assertEqual(str(one), "- a1 c0\nz d1\n")
        self.assertEqual(chain(200).text().split("\n")[:2], ["- a1", "- a2"])
        self.assertEqual(chain(200).text().split("\n")[198:], ["- a199", "x", ""])

    def test_equal(self):
        self.assertEqual(book("x a0"), Book([("x", 0, None, None, None)]))
        self.assertNotEqual(book("x a0"), book("y a0"))
        # Equal words are not enough: the nodes must be equal.
        self.assertNotEqual(book("x a0"), book("x a1", "x a0"))
        self.assertFalse(book("x") != book("x"))
        self.assertTrue(book("x") != book("y"))
        for value in [None, True, 0, "x\n", [("x", None, None, None, None)], (("x", None, None, None, None),)]:
            self.assertIs(book("x") == value, False)
            self.assertIs(value == book("x"), False)

    def test_len_and_truth(self):
        self.assertEqual([len(NOTHING), len(ROW), len(chain(200))], [1, 2, 200])
        self.assertIs(bool(NOTHING), True)

    def test_repr(self):
        self.assertEqual(repr(ROW), "Book(2 nodes)")
        self.assertEqual(repr(NOTHING), "Book(1 nodes)")
        self.assertEqual(repr(chain(200)), "Book(200 nodes)")
