"""Any number of steps at once."""

import random

from lexiconlines.books import Book
from lexiconlines.errors import BlockEnds, InvalidFar, InvalidNumber, NoStep, NoWord
from lexiconlines.far import compare, far_color, is_far, plain
from lexiconlines.farsteps import step
from lexiconlines.steps import next_word, previous_word
from tests.support import (ANY_VALUES, EMPTY_WORD, NOTHING, ROW, STEP, TWO, LexiconCase, book, chain, random_books,
                           reach_of, ring, words_of)

MOST = 10 ** 30
# a^n b for all n, and then c^n b for all n from 1 on: one block without ends.
BOTH = book("- a1 b3 c2", "- a1 b3", "- b3 c2", "x")
# From each node all four letters lead to the next one; the words are the strings of 199 letters.
DEEP = Book([("",) + (at + 1,) * 4 for at in range(199)] + [("z", None, None, None, None)])


class FarStepsCase(LexiconCase):

    def check_step(self, one, far, by, goal):
        """Checks where steps lead, and that the same number of steps leads back."""
        found = step(one, far, by=by)
        self.assertIs(is_far(found), True)
        self.assertEqual(compare(found, goal), 0)
        self.assertNotEqual(far_color(one, found), "")
        self.assertEqual(compare(step(one, found, by=-by), far), 0)

    def check_end(self, one, far, by, gone):
        self.check_error(BlockEnds, {"gone": gone}, step, one, far, by=by)


class RowTest(FarStepsCase):

    def test_the_example_of_the_document(self):
        self.check_step(ROW, (("a", 1),), MOST, (("b", MOST), ("a", 1)))
        self.check_step(ROW, (("b", 7), ("a", 1)), -7, (("a", 1),))

    def test_few_steps(self):
        for by in range(12):
            self.check_step(ROW, (("a", 1),), by, (("b" * by + "a", 1),))
            self.check_step(ROW, (("bba", 1),), by, (("b" * (by + 2) + "a", 1),))

    def test_many_steps_again_and_again(self):
        far = (("a", 1),)
        for many in range(1, 8):
            far = step(ROW, far, by=MOST)
            self.assertEqual(compare(far, (("b", MOST),) * many + (("a", 1),)), 0)
        for many in range(7, 0, -1):
            far = step(ROW, far, by=-MOST)
        self.assertEqual(plain(far), "a")

    def test_one_step_unless_told_otherwise(self):
        self.assertEqual(plain(step(ROW, (("ba", 1),))), "bba")
        self.assertEqual(plain(step(book=ROW, far=(("b", 3), ("a", 1)))), "bbbba")

    def test_no_steps(self):
        for far in ((("a", 1),), (("b", MOST), ("b", MOST), ("ba", 1))):
            self.assertEqual(compare(step(ROW, far, by=0), far), 0)
        self.assertEqual(step(EMPTY_WORD, (), by=0), ())

    def test_the_written_form_of_the_word_does_not_matter(self):
        for far in ((("b", 6), ("a", 1)), (("bb", 3), ("a", 1)), (("b", 1), ("bbb", 1), ("b", 1), ("ba", 1))):
            self.check_step(ROW, far, 10, (("b", 16), ("a", 1)))
            self.check_step(ROW, far, -6, (("a", 1),))
            self.check_end(ROW, far, -7, 6)


class BlocksTest(FarStepsCase):

    def test_blocks_with_one_end(self):
        self.check_end(ROW, (("a", 1),), -1, 0)
        self.check_end(ROW, (("b", 5), ("a", 1)), -MOST, 5)
        self.check_end(ROW, (("b", MOST - 1), ("a", 1)), -MOST, MOST - 1)
        self.check_step(ROW, (("b", MOST), ("a", 1)), -MOST, (("a", 1),))
        self.check_step(ROW, (("b", MOST), ("b", MOST), ("a", 1)), -MOST, (("b", MOST), ("a", 1)))
        self.check_end(TWO, (("b", 1),), -1, 0)
        self.check_end(TWO, (("b", 1), ("a", 123)), -124, 123)
        self.check_step(TWO, (("b", 1),), MOST, (("b", 1), ("a", MOST)))

    def test_blocks_with_two_ends(self):
        one = book("x a1 b2", "y a2 c2", "z")
        self.check_step(one, (), 4, (("b", 1),))
        self.check_step(one, (("ac", 1),), -3, ())
        self.check_end(one, (), 5, 4)
        self.check_end(one, (), MOST, 4)
        self.check_end(one, (("ac", 1),), 2, 1)
        self.check_end(one, (("ac", 1),), -4, 3)
        self.check_end(EMPTY_WORD, (), 1, 0)
        self.check_end(EMPTY_WORD, (), -1, 0)

    def test_ends_where_words_fall_or_rise(self):
        # baab, bab, bb and so on fall, and they have no first word.
        one = book("x a1 b2", "y b3", "- a2 b3", "z")
        self.check_step(one, (), 2, (("ab", 1),))
        self.check_end(one, (), 3, 2)
        self.check_end(one, (("a", 1),), 9, 1)
        self.check_end(one, (("bab", 1),), 5, 1)
        self.check_step(one, (("bab", 1),), -MOST, (("b", 1), ("a", MOST), ("ab", 1)))
        self.check_end(STEP, (("b", 1),), -1, 0)
        self.check_step(STEP, (("b", 1),), MOST, (("b", MOST), ("b", 1)))
        self.check_step(STEP, (), MOST, (("a", MOST),))

    def test_blocks_without_ends(self):
        self.check_step(BOTH, (("ab", 1),), MOST, (("c", MOST - 1), ("b", 1)))
        self.check_step(BOTH, (("ab", 1),), -MOST, (("a", MOST), ("ab", 1)))
        self.check_step(BOTH, (("a", 9), ("b", 1)), 20, (("c", 11), ("b", 1)))
        self.check_step(BOTH, (("c", MOST), ("b", 1)), -MOST, (("b", 1),))

    def test_blocks_of_one_word(self):
        one = book("- a0 b1 c0", "x")
        for far in ((("b", 1),), (("ac", MOST), ("b", 1))):
            self.check_end(one, far, 1, 0)
            self.check_end(one, far, -MOST, 0)


class CountsTest(FarStepsCase):

    def test_parts_with_very_many_words(self):
        self.check_step(DEEP, (("a", 199),), 4 ** 49, (("a", 149), ("b", 1), ("a", 49)))
        self.check_end(DEEP, (("d", 190), ("a", 9)), MOST, 4 ** 9 - 1)
        self.check_end(DEEP, (("a", 190), ("d", 9)), -MOST, 4 ** 9 - 1)
        self.check_end(chain(200), (("a", 199),), 1, 0)
        number, goal = 4 ** 199 - 1 - MOST, ""
        for _ in range(199):
            goal = "abcd"[number % 4] + goal
            number //= 4
        self.check_step(DEEP, (("d", 199),), -MOST, ((goal, 1),))

    def test_rings_that_pass_several_words(self):
        # In each turn by bb lie five words: none, a, ad, ba and bad behind it.
        one = book("x a2 b1", "- a2 b0", "y d3", "z")
        for by in (1, 2, 3, 4, 5, 6, 7, 30, 31, 32, 33, 34):
            word = ""
            for _ in range(by):
                word = next_word(one, word)
            self.check_step(one, (), by, ((word, 1),))
        self.check_step(one, (), 5 * 10 ** 29, (("bb", 10 ** 29),))
        self.check_step(one, (), 5 * 10 ** 29 + 3, (("bb", 10 ** 29), ("ba", 1)))
        self.check_step(one, (("bb", 10 ** 29), ("ad", 1)), -5 * 10 ** 29, (("ad", 1),))
        self.check_end(one, (("bb", 10 ** 29), ("ad", 1)), -MOST, 5 * 10 ** 29 + 2)

    def test_long_rings(self):
        one = ring(200, {7: "x", 100: "y"})
        self.check_step(one, (("a", 7),), MOST, (("a" * 100, MOST), ("a", 7)))
        self.check_step(one, (("a", 100),), 2 * 10 ** 9 + 1, (("a" * 200, 10 ** 9), ("a", 207)))
        self.check_end(one, (("a" * 100, 10 ** 29 + 1),), -MOST, 10 ** 29 + 1)


class ErrorsTest(FarStepsCase):

    def test_numbers(self):
        for value in [None, True, False, "1", "", (), (1,), [1], MOST + 1, -MOST - 1, 10 ** 31, ROW]:
            self.check_error(InvalidNumber, {"number": value}, step, ROW, (("a", 1),), by=value)

    def test_values_that_are_no_far_word(self):
        for value in ANY_VALUES:
            if value not in ((), (("a", 1),)):
                self.check_error(InvalidFar, {}, step, ROW, value)
                self.check_error(InvalidFar, {}, step, ROW, value, by=0)
        self.check_error(InvalidFar, {}, step, ROW, (("a", True),))
        self.check_error(InvalidFar, {}, step, ROW, [("a", 1)], by=-1)

    def test_far_words_that_are_no_words(self):
        for far in ((), (("b", MOST),), (("ab", 1),), (("a", 2),), (("a", 1), ("b", MOST))):
            for by in (1, 0, -1):
                self.check_error(NoWord, {"word": far, "place": None}, step, ROW, far, by=by)
        self.check_error(NoWord, {"word": (), "place": None}, step, NOTHING, ())

    def test_several_wrong_arguments(self):
        self.check_error(InvalidNumber, {"number": True}, step, ROW, "a", by=True)
        self.check_error(InvalidNumber, {"number": None}, step, ROW, (("b", 1),), by=None)
        self.check_error(InvalidFar, {}, step, NOTHING, [("b", 1)], by=-5)
        self.check_error(NoWord, {"word": (("b", 1),), "place": None}, step, ROW, (("b", 1),), by=-5)


class RandomTest(FarStepsCase):

    def walked(self, one, word, by):
        """The word so many single steps away, or the number of steps that can be made."""
        call = next_word if by > 0 else previous_word
        for gone in range(abs(by)):
            try:
                word = call(one, word)
            except NoStep:
                return None, gone
        return word, abs(by)

    def test_single_steps(self):
        dice = random.Random(101)
        counts = {True: 0, False: 0}
        for one, letters in random_books(102, 200):
            words = list(words_of(one, letters, min(5, reach_of(letters))))
            for word in dice.sample(words, min(3, len(words))):
                cut = dice.randint(0, len(word))
                far = tuple((piece, 1) for piece in (word[:cut], word[cut:]) if piece)
                by = dice.choice([-1, 1]) * dice.randint(1, 30)
                goal, gone = self.walked(one, word, by)
                counts[goal is None] += 1
                if goal is None:
                    self.check_end(one, far, by, gone)
                else:
                    self.check_step(one, far, by, ((goal, 1),) if goal else ())
        self.assertGreater(min(counts.values()), 50)

    def test_great_numbers_of_steps(self):
        dice = random.Random(103)
        counts = {True: 0, False: 0}
        for one, letters in random_books(104, 200):
            words = list(words_of(one, letters, min(5, reach_of(letters))))
            for word in dice.sample(words, min(2, len(words))):
                self.check_great_number(one, ((word, 1),) if word else (), dice, counts)
        self.assertGreater(min(counts.values()), 50)

    def check_great_number(self, one, far, dice, counts):
        by = dice.choice([-1, 1]) * dice.randint(1, 10 ** dice.randint(1, 30))
        part = dice.randint(0, abs(by)) * (1 if by > 0 else -1)
        try:
            goal = step(one, far, by=by)
        except BlockEnds as error:
            counts[True] += 1
            self.assertLess(error.gone, abs(by))
            last = step(one, far, by=error.gone if by > 0 else -error.gone)
            self.check_end(one, last, by, 0)
        else:
            counts[False] += 1
            self.check_step(one, far, by, goal)
            self.assertEqual(compare(goal, far), 1 if by > 0 else -1)
            self.check_step(one, step(one, far, by=part), by - part, goal)

    def test_long_walks_stay_short_in_writing(self):
        dice = random.Random(105)
        one = book("x a2 b1", "- a2 b3", "y d4", "x a4 b0", "z")
        far = ()
        for _ in range(200):
            far = step(one, far, by=dice.randint(1, 9))
        self.assertLess(len(far), 30)
        numbers = [dice.randint(1, MOST) for _ in range(50)]
        last = far
        for by in numbers:
            last = step(one, last, by=by)
        for by in numbers:
            last = step(one, last, by=-by)
        self.assertEqual(compare(last, far), 0)
