"""Places of words, their order, and gaps between places."""

import itertools

from lexiconlines.classes import branches, class_of
from lexiconlines.errors import InvalidWord, NoGap, NoWord, UnknownNode
from lexiconlines.listing import by_length
from lexiconlines.places import gap_inside, is_place, place_of, place_order
from lexiconlines.ways import kinds_of_gap
from tests.support import ANY_VALUES, EMPTY_WORD, NOTHING, ROW, STEP, TWO, LexiconCase, book, random_books, strings

LEFT = ("left",)
RIGHT = ("right",)
# The class letters of 0 are b and d; it is left by a, c and at 0 itself, and at 1, whose class letters are b and c.
MANY = book("x a2 b0 c2 d1", "y a2 b1 c0 d2", "z a2")


def gap(prefix, low, high):
    return ("gap", prefix, low, high)


def gaps_of(one, letters, most):
    """All gaps of a book with prefixes of at most so many of these letters."""
    fellows = class_of(one, 0)
    found = []
    for prefix in strings(letters, most):
        node = one.node_at(prefix)
        if node in fellows:
            found.extend(gap(prefix, low, high) for at, low, high in kinds_of_gap(one, 0) if at == node)
    return found


class PlaceOfTest(LexiconCase):

    def test_words_that_leave_ahead(self):
        self.assertEqual(place_of(MANY, ""), LEFT)
        self.assertEqual(place_of(MANY, "a"), LEFT)
        self.assertEqual(place_of(MANY, "aaa"), LEFT)
        self.assertEqual(place_of(MANY, "bb"), LEFT)
        self.assertEqual(place_of(MANY, "bba"), LEFT)
        self.assertEqual(place_of(MANY, "d"), gap("", "b", "d"))
        self.assertEqual(place_of(MANY, "dbba"), gap("", "b", "d"))
        self.assertEqual(place_of(MANY, "dc"), gap("d", "b", "c"))
        self.assertEqual(place_of(MANY, "bdbcbb"), gap("bdb", "b", "c"))

    def test_words_that_leave_behind(self):
        self.assertEqual(place_of(MANY, "dd"), RIGHT)
        self.assertEqual(place_of(MANY, "ddaa"), RIGHT)
        self.assertEqual(place_of(MANY, "dcdd"), RIGHT)
        self.assertEqual(place_of(MANY, "bdd"), gap("", "b", "d"))
        self.assertEqual(place_of(MANY, "dbdaa"), gap("d", "b", "c"))
        self.assertEqual(place_of(MANY, "bdcdcdda"), gap("", "b", "d"))

    def test_words_that_leave_between(self):
        self.assertEqual(place_of(MANY, "c"), gap("", "b", "d"))
        self.assertEqual(place_of(MANY, "bbcaaa"), gap("bb", "b", "d"))
        self.assertEqual(place_of(book=MANY, word="dcc"), gap("dc", "b", "d"))
        wide = book("- a0 b1 c1 d0", "x")
        self.assertEqual([place_of(wide, word) for word in ("b", "c", "dab")],
                         [gap("", "a", "d"), gap("", "a", "d"), gap("da", "a", "d")])

    def test_classes_that_do_not_branch(self):
        self.assertEqual([place_of(ROW, word) for word in ("a", "ba", "bbba")], [LEFT, LEFT, LEFT])
        down = book("- a0 b1", "x")
        self.assertEqual([place_of(down, word) for word in ("b", "ab", "aab")], [RIGHT, RIGHT, RIGHT])

    def test_long_words(self):
        word = "bd" + "c" * 60
        self.assertEqual(place_of(book("x b0 c0 d0"), word), gap("bd" + "c" * 59, "b", "c"))
        self.assertEqual(place_of(book("x b0 c0 d0"), "b" * 4000), LEFT)

    def test_starts_of_no_class(self):
        for one in (NOTHING, EMPTY_WORD, book("x a1", "x a1 b1"), book("- a0")):
            for word in ("", "a", 5, None):
                self.check_error(UnknownNode, {"node": 0}, place_of, one, word)

    def test_errors(self):
        for value in ANY_VALUES:
            if not isinstance(value, str) or value.strip("abcd"):
                self.check_error(InvalidWord, {"word": value}, place_of, MANY, value)
        self.check_error(NoWord, {"word": "bac", "place": 2}, place_of, MANY, "bac")
        self.check_error(NoWord, {"word": "b", "place": 1}, place_of, ROW, "b")

    def test_places_of_random_books(self):
        met = 0
        for one, _ in random_books(141, 250, most_nodes=5):
            if not class_of(one, 0):
                continue
            words = sorted(by_length(one, 40))
            places = [place_of(one, word) for word in words]
            for place in places:
                self.assertIs(is_place(one, place), True)
            for (word, place), (further, other) in itertools.combinations(zip(words, places), 2):
                self.assertLess(word, further)
                self.assertIn(place_order(one, place, other), (-1, 0))
                met += place != other
        self.assertGreater(met, 1000)


class OrderTest(LexiconCase):

    def test_ends(self):
        for place in (gap("", "b", "d"), gap("d", "b", "c"), RIGHT):
            self.assertEqual([place_order(MANY, LEFT, place), place_order(MANY, place, LEFT)], [-1, 1])
        for place in (gap("", "b", "d"), gap("bbb", "b", "d"), LEFT):
            self.assertEqual([place_order(MANY, RIGHT, place), place_order(MANY, place, RIGHT)], [1, -1])
        self.assertEqual([place_order(MANY, LEFT, LEFT), place_order(MANY, RIGHT, RIGHT)], [0, 0])

    def test_gaps(self):
        one = book("x a0 b0 c0 d0")
        pairs = [
            (gap("", "a", "b"), gap("", "b", "c")), (gap("", "a", "b"), gap("b", "a", "b")),
            (gap("", "a", "b"), gap("d", "a", "b")), (gap("a", "c", "d"), gap("", "a", "b")),
            (gap("a", "c", "d"), gap("", "b", "c")), (gap("ab", "a", "b"), gap("ac", "a", "b")),
            (gap("", "b", "c"), gap("c", "a", "b")), (gap("ba", "c", "d"), gap("", "b", "c")),
            (gap("ad", "c", "d"), gap("b", "a", "b")), (gap("a" * 50, "a", "b"), gap("a" * 50, "c", "d")),
        ]
        for low, high in pairs:
            self.assertEqual(place_order(one, low, high), -1, (low, high))
            self.assertEqual(place_order(book=one, one=high, other=low), 1, (low, high))
            self.assertEqual(place_order(one, low, low), 0)

    def test_it_is_an_order(self):
        for one, letters in random_books(142, 60, most_nodes=4):
            if not class_of(one, 0) or not branches(one, 0):
                continue
            gaps = gaps_of(one, letters, 3)[:25]
            for low, middle, high in itertools.product(gaps, repeat=3):
                if place_order(one, low, middle) < 0 and place_order(one, middle, high) < 0:
                    self.assertEqual(place_order(one, low, high), -1)
            for low, high in itertools.product(gaps, repeat=2):
                self.assertEqual(place_order(one, low, high), -place_order(one, high, low))
                self.assertIs(place_order(one, low, high) == 0, low == high)


class IsPlaceTest(LexiconCase):

    def test_places(self):
        for place in (LEFT, RIGHT, gap("", "b", "d"), gap("d", "b", "c"), gap("bdbc", "b", "d"), gap("b" * 500, "b", "d")):
            self.assertIs(is_place(MANY, place), True, place)
        self.assertIs(is_place(book=ROW, value=LEFT), True)

    def test_places_but_for_one_part(self):
        for value in ("left", ["left"], ("left", ""), ("right", "", "b", "d"), ("middle",), (), ("gap",), ("gap", ""),
                      ("gap", "", "b"), ("gap", "", "b", "d", "d"), ["gap", "", "b", "d"], ("gap", "a", "b", "d"),
                      ("gap", "", "b", "c"), ("gap", "", "d", "b"), ("gap", "", "b", "b"), ("gap", "", "bd", ""),
                      ("gap", "d", "b", "d"), ("gap", "", "c", "d"), ("gap", None, "b", "d"), ("gap", 0, "b", "d"),
                      ("gap", ["b"], "b", "d"), ("gap", "e", "b", "d"), ("gap", "", None, "d"), ("gap", "", "b", True),
                      ("gap", "", ("b",), "d"), (True, "", "b", "d"), ("gap", "c", "b", "d"), ("gap", "", "b", "d\n")):
            self.assertIs(is_place(MANY, value), False, value)

    def test_any_values(self):
        for value in ANY_VALUES:
            self.assertIs(is_place(MANY, value), False, value)
            self.assertIs(is_place(NOTHING, value), False, value)

    def test_starts_of_no_class(self):
        for one in (NOTHING, EMPTY_WORD, book("x a1", "x a1 b1")):
            for value in (LEFT, RIGHT, gap("a", "a", "b"), gap("", "a", "b")):
                self.assertIs(is_place(one, value), False)

    def test_gaps_of_classes_that_do_not_branch(self):
        self.assertIs(is_place(ROW, gap("", "a", "b")), False)
        self.assertIs(is_place(STEP, gap("b", "a", "b")), False)


class GapInsideTest(LexiconCase):

    def check_inside(self, one, kind, low, high):
        found = gap_inside(one, kind, low=low, high=high)
        self.assertIs(is_place(one, found), True)
        self.assertEqual((one.node_at(found[1]), found[2], found[3]), kind)
        if low is not None:
            self.assertEqual(place_order(one, low, found), -1, (low, found, high))
        if high is not None:
            self.assertEqual(place_order(one, found, high), -1, (low, found, high))

    def test_no_end_one_end_and_both_ends(self):
        kinds = [(0, "b", "d"), (1, "b", "c")]
        gaps = sorted(gaps_of(MANY, "bcd", 4))
        for kind in kinds:
            self.check_inside(MANY, kind, None, None)
            for place in gaps + [gap("dc" * 30, "b", "d")]:
                self.check_inside(MANY, kind, place, None)
                self.check_inside(MANY, kind, None, place)
            for low, high in itertools.product(gaps, repeat=2):
                if place_order(MANY, low, high) < 0:
                    self.check_inside(MANY, kind, low, high)

    def test_random_books(self):
        met = 0
        for one, letters in random_books(143, 200, most_nodes=4):
            if not class_of(one, 0) or not branches(one, 0):
                continue
            gaps = gaps_of(one, letters, 3)[:12]
            for kind in kinds_of_gap(one, 0):
                for low, high in itertools.product(gaps + [None], repeat=2):
                    if low is None or high is None or place_order(one, low, high) < 0:
                        self.check_inside(one, kind, low, high)
                        met += 1
        self.assertGreater(met, 1000)

    def test_errors(self):
        kind = (0, "b", "d")
        low, high = gap("bb", "b", "d"), gap("", "b", "d")
        self.check_error(NoGap, {"gap": low}, gap_inside, MANY, kind, low=high, high=low)
        self.check_error(NoGap, {"gap": low}, gap_inside, MANY, kind=kind, low=low, high=low)
        for value in ANY_VALUES + [LEFT, RIGHT, gap("a", "b", "d"), gap("", "b", "c"), list(high)]:
            if value is not None:
                self.check_error(NoGap, {"gap": value}, gap_inside, MANY, kind, low=value)
                self.check_error(NoGap, {"gap": value}, gap_inside, MANY, kind, high=value)
                self.check_error(NoGap, {"gap": value}, gap_inside, MANY, "no kind", low=low, high=value)
                self.check_error(NoGap, {"gap": value}, gap_inside, MANY, "no kind", low=value, high=5)

    def test_wrong_kinds(self):
        low, high = gap("bb", "b", "d"), gap("", "b", "d")
        for value in ANY_VALUES + [(False, "b", "d"), (True, "b", "c"), [0, "b", "d"], (0, "b"), (0, "b", "c"), (0, "d", "b"),
                                   (1, "b", "d"), (2, "a", "b"), (9, "b", "d"), (0, "b", "d", "d"), ("0", "b", "d"), high]:
            self.check_error(NoGap, {"gap": value}, gap_inside, MANY, value)
            self.check_error(NoGap, {"gap": value}, gap_inside, MANY, value, low=high, high=low)
        self.check_error(NoGap, {"gap": (0, "a", "b")}, gap_inside, ROW, (0, "a", "b"))
        # The kind of a class that is not that of the start.
        one = book("x a0 b0 c1", "x a1 b1 c1")
        self.check_error(NoGap, {"gap": (1, "a", "b")}, gap_inside, one, (1, "a", "b"))

    def test_starts_of_no_class(self):
        for one in (NOTHING, EMPTY_WORD, book("x a1", "x a1 b1")):
            self.check_error(UnknownNode, {"node": 0}, gap_inside, one, (1, "a", "b"), low=5)
        self.assertEqual(is_place(TWO, gap_inside(TWO, (0, "a", "b"))), True)
