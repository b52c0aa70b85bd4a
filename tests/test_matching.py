"""Matchings: the pairs, the mates by the words of the document, errors, twins."""

import random

from lexiconlines.books import Book
from lexiconlines.errors import InvalidNumber, InvalidWord, NoWord, TooMany, Unlike
from lexiconlines.keys import key_of, same_line
from lexiconlines.languages import coded, under
from lexiconlines.listing import by_length
from lexiconlines.machines import book_of, joined
from lexiconlines.matching import Matching
from lexiconlines.parting import parting
from lexiconlines.spans import between
from lexiconlines.steps import last_word, previous_word
from lexiconlines.terms import Term
from tests.support import (
    ANY_VALUES, EMPTY_WORD, ENDING, NOTHING, ROW, STEP, TWO, LexiconCase, book, late_book, random_books, random_term, retold)

THREE = book("x a0 b0 c0")
OTHER_ROW = book("- a1", "x a1")


def told_mate(books, pairs, side, word):
    """The mate by the words of the document, with keys of exact books; None if it is none of the first words."""
    lows = [pair for pair in pairs if pair[side] < word]
    highs = [pair for pair in pairs if pair[side] > word]
    own, other = books[side], books[1 - side]
    u1, v1 = (max(lows)[side], max(lows)[1 - side]) if lows else (None, None)
    u2, v2 = (min(highs)[side], min(highs)[1 - side]) if highs else (None, None)
    ahead, behind = key_of(between(own, low=u1, high=word)), key_of(between(own, low=word, high=u2))
    for mate in by_length(between(other, low=v1, high=v2), 5000):
        if other.color_of(mate) == own.color_of(word) and key_of(between(other, low=v1, high=mate)) == ahead:
            if key_of(between(other, low=mate, high=v2)) == behind:
                return mate
    return None


def same_books(seed, many):
    """Pairs of books with the same line."""
    dice = random.Random(seed)
    while many > 0:
        term = random_term(dice, dice.choice([2, 3, 4]), dice.choice(["x", "xy", "xyz"]))
        other = retold(dice, term)
        if len(term) <= 20 and len(other) <= 40:
            many -= 1
            yield book_of(term), dice.choice([book_of(other), coded(book_of(other), ["a", "ba", "bb", "c"])])


class MatchingTest(LexiconCase):

    def test_example(self):
        matching = Matching(ROW, OTHER_ROW)
        self.assertEqual([matching.mate(0, "ba"), matching.mate(1, "a"), matching.pairs()],
                         ["aa", "a", [("a", "a"), ("ba", "aa")]])

    def test_a_new_matching_is_empty(self):
        matching = Matching(one=TWO, other=THREE)
        self.assertEqual((matching.pairs(), len(matching), bool(matching), repr(matching)), ([], 0, True, "Matching(0 pairs)"))
        self.assertIs(matching.one, TWO)
        self.assertIs(matching.other, THREE)
        matching.mate(side=0, word="b")
        self.assertEqual((len(matching), bool(matching), repr(matching)), (1, True, "Matching(1 pairs)"))
        matching.mate(1, "ccc")
        self.assertEqual(repr(matching), "Matching(2 pairs)")

    def test_words_in_pairs(self):
        matching = Matching(TWO, THREE)
        mate = matching.mate(0, "ab")
        self.assertEqual(matching.pairs(), [("ab", mate)])
        for _ in range(2):
            self.assertEqual((matching.mate(0, "ab"), matching.mate(1, mate)), (mate, "ab"))
        self.assertEqual(matching.pairs(), [("ab", mate)])
        # The empty word is a mate like all others.
        self.assertEqual((matching.mate(1, ""), matching.mate(0, ""), len(matching)), ("", "", 2))

    def test_below_between_and_above(self):
        matching = Matching(TWO, THREE)
        middle = matching.mate(0, "ab")
        low, high = matching.mate(0, "aab"), matching.mate(0, "b")
        self.assertLess(low, middle)
        self.assertLess(middle, high)
        inner = matching.mate(0, "aba")
        self.assertTrue(middle < inner < high)
        self.assertEqual(matching.pairs(), [("aab", low), ("ab", middle), ("aba", inner), ("b", high)])

    def test_colors_are_kept(self):
        one = book_of(Term.read("{x,y}"))
        other = book_of(Term.read("{x,y}x{y,x}"))
        matching = Matching(one, other)
        for side, books in ((0, (one, other)), (1, (other, one))):
            for word in by_length(books[0], 12):
                self.assertEqual(books[1].color_of(matching.mate(side, word)), books[0].color_of(word))

    def test_books_with_one_word_or_none(self):
        matching = Matching(EMPTY_WORD, book("- d1", "y"))
        self.assertEqual((matching.mate(1, "d"), matching.pairs()), ("", [("", "d")]))
        matching = Matching(NOTHING, book("- a0"))
        self.check_error(NoWord, {"word": "", "place": 0}, matching.mate, 0, "")
        self.assertEqual(matching.pairs(), [])

    def test_random_books(self):
        dice = random.Random(71)
        asked = 0
        for books in same_books(72, 60):
            matching = Matching(*books)
            pairs = []
            for _ in range(10):
                side = dice.randrange(2)
                word = dice.choice(list(by_length(books[side], 40)))
                known = [pair[1 - side] for pair in pairs if pair[side] == word]
                mate = matching.mate(side, word)
                self.assertEqual(mate, known[0] if known else told_mate(books, pairs, side, word))
                pairs = sorted({*pairs, (word, mate) if side == 0 else (mate, word)})
                self.assertEqual(matching.pairs(), pairs)
                asked += not known
            self.assertEqual([pair[1] for pair in pairs], sorted(pair[1] for pair in pairs))
        self.assertGreater(asked, 300)

    def test_who_asks_is_free(self):
        """Each way to ask brings a matching in which all lines between pairs are the same."""
        dice = random.Random(73)
        for books in same_books(74, 20):
            words = [list(by_length(one, 8)) for one in books]
            asked = [(side, word) for side in (0, 1) for word in words[side]]
            dice.shuffle(asked)
            matching = Matching(*books)
            for side, word in asked:
                matching.mate(side, word)
            pairs = [(None, None), *matching.pairs(), (None, None)]
            for low, high in zip(pairs, pairs[1:]):
                lines = [between(one, low=low[side], high=high[side]) for side, one in enumerate(books)]
                self.assertTrue(same_line(*lines))


class UnlikeTest(LexiconCase):

    def test_levels(self):
        two, three = book_of(Term.read("(x)>(x)>")), book_of(Term.read("(x)>(x)>(x)>"))
        for one, other, level, sign in [
            (book("x a1", "y"), book("x a1", "x"), 0, "y"), (NOTHING, EMPTY_WORD, 0, "y"), (book("x"), book("x a1", "x"), 1, "[xx]"),
            (book("x a0"), TWO, 2, "[{[(x)>]}]"), (STEP, ROW, 3, "[<([(x)>])]"), (two, three, 3, "[[(x)>][(x)>][(x)>]]"),
        ]:
            self.check_error(Unlike, {"level": level, "sign": sign}, Matching, one, other)
            self.check_error(Unlike, {"level": level, "sign": sign}, Matching, other=one, one=other)

    def test_random_books(self):
        books = [one for one, _ in random_books(75, 30, most_nodes=4)]
        for one, other in zip(books, books[1:]):
            found = parting(one, other)
            if found is None:
                self.assertEqual(Matching(one, other).pairs(), [])
            else:
                self.check_error(Unlike, {"level": found[0], "sign": found[2]}, Matching, one, other)


class MateErrorTest(LexiconCase):

    def setUp(self):
        self.matching = Matching(ROW, OTHER_ROW)
        self.matching.mate(0, "ba")

    def tearDown(self):
        self.assertEqual(self.matching.pairs(), [("ba", "aa")])

    def test_sides(self):
        for value in [2, -1, 10 ** 30, True, False] + [value for value in ANY_VALUES if value.__class__ is not int]:
            self.check_error(InvalidNumber, {"number": value}, self.matching.mate, value, "e")

    def test_words(self):
        for value in [None, 7, True, "e", "A", "a b", "x", ["a"], ("a",), ROW]:
            self.check_error(InvalidWord, {"word": value}, self.matching.mate, 1, value)
        self.check_error(NoWord, {"word": "bb", "place": 2}, self.matching.mate, 0, "bb")
        self.check_error(NoWord, {"word": "bba" * 20, "place": 3}, self.matching.mate, 0, "bba" * 20)
        self.check_error(NoWord, {"word": "", "place": 0}, self.matching.mate, 1, "")
        self.check_error(NoWord, {"word": "ba", "place": 0}, self.matching.mate, 1, "ba")

    def test_longer_words_may_be_asked(self):
        matching = Matching(ROW, OTHER_ROW)
        self.assertEqual(matching.mate(0, "b" * 60 + "a"), "a" * 61)
        self.assertEqual(matching.mate(1, "a" * 60), "b" * 59 + "a")


class TooManyTest(LexiconCase):

    def test_the_last_word_that_is_looked_at(self):
        fits, late = late_book(4999), late_book(5000)
        last = "d" + "a" * 46
        self.assertEqual(([*by_length(fits, 5000)][-1], [*by_length(late, 5001)][-1]), (last, last))
        matching = Matching(ENDING, fits)
        self.assertEqual(matching.mate(0, last_word(ENDING)), last)
        matching = Matching(ENDING, late)
        self.check_error(TooMany, {"count": 5000}, matching.mate, 0, last_word(ENDING))
        self.assertEqual((matching.pairs(), len(matching)), ([], 0))
        self.assertEqual(matching.mate(1, last), last_word(ENDING))

    def test_words_between_neighbors_count(self):
        # Only 5000 words between the neighbors are looked at, so a word that is too late may be found later.
        matching = Matching(ENDING, late_book(5000))
        word = last_word(ENDING)
        self.check_error(TooMany, {"count": 5000}, matching.mate, 0, word)
        self.assertEqual(matching.mate(0, previous_word(ENDING, word)), "caaaaaaa")
        self.assertEqual(matching.mate(0, word), "d" + "a" * 46)

    def test_rows_of_many_words(self):
        nodes = [("", 1, 0, None, None)] + [("", at + 1, at + 1, None, None) for at in range(1, 8)] + [("x", None, None, None, None)]
        groups = Book(nodes)
        matching = Matching(groups, OTHER_ROW)
        word = "b" * 9 + "aabababa"
        self.assertEqual(matching.mate(0, word), "a" * (9 * 128 + int("0101010", 2) + 1))


class StateTest(LexiconCase):

    def test_twins(self):
        matching = Matching(TWO, THREE)
        matching.mate(0, "b")
        twin = matching.twin()
        self.assertEqual((twin.pairs(), twin.one, twin.other), (matching.pairs(), TWO, THREE))
        self.assertEqual(twin.mate(0, "ab"), matching.twin().mate(0, "ab"))
        self.assertEqual((len(twin), len(matching)), (2, 1))
        matching.mate(1, "cc")
        self.assertEqual((len(twin), len(matching)), (2, 2))
        self.assertNotIn(("ab", twin.mate(0, "ab")), matching)

    def test_returned_lists_are_new(self):
        matching = Matching(TWO, THREE)
        mate = matching.mate(0, "b")
        found = matching.pairs()
        found.append(("a", "a"))
        found[0] = ("c", "c")
        self.assertEqual((matching.pairs(), matching.mate(0, "b"), len(matching)), ([("b", mate)], mate, 1))

    def test_values_of_all_kinds(self):
        matching = Matching(TWO, THREE)
        mate = matching.mate(0, "bb")
        self.assertIs(("bb", mate) in matching, True)
        for value in ANY_VALUES + [["bb", mate], ("bb",), ("bb", mate, mate), (mate, "bb", 0), ("b", mate), ("bb", None), (["bb"], mate),
                                   "bb" + mate, matching, ("bb", ("x",)), (True, False), ("", "")]:
            self.assertIs(value in matching, False, value)

    def test_equal_calls(self):
        found = []
        for _ in range(2):
            matching = Matching(under(TWO, "cab"), joined(TWO, THREE, TWO))
            found.append([matching.mate(0, "cabab"), matching.mate(1, "cb"), matching.mate(0, "cab"), matching.pairs()])
        self.assertEqual(found[0], found[1])
