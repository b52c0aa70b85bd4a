"""First, last, next and previous words."""

import random

from lexiconlines.errors import InvalidWord, NoStep, NoWord
from lexiconlines.falls import falls_to, rises_to
from lexiconlines.steps import first_word, in_block, last_word, next_word, previous_word, upward
from tests.support import (ANY_VALUES, EMPTY_WORD, NOTHING, ROW, STEP, TWO, LexiconCase, book, chain, random_books,
                           reach_of, ring, words_of)

# b, ab, aab and so on, and b, cb, ccb and so on: open on both sides.
OPEN = book("- a0 b1 c0", "x")
LETTERLESS = [value for value in ANY_VALUES if not isinstance(value, str) or value.strip("abcd")]


class StepsCase(LexiconCase):

    def check_no_step(self, call, one, word, *, shown):
        """Checks that there is no step, with a right paper if one is to be shown, and without one otherwise."""
        up = call in (first_word, next_word)
        with self.assertRaises(NoStep) as caught:
            call(one) if word is None else call(one, word)
        error = caught.exception
        self.assertIs(error.__class__, NoStep)
        self.assertEqual((error.word, error.direction), (word, "up" if up else "down"))
        if shown:
            self.assertIs(error.paper.__class__, tuple)
            self.assertIs((falls_to if up else rises_to)(one, word, error.paper), True)
        else:
            self.assertIsNone(error.paper)


class EndsTest(StepsCase):

    def test_ends_that_are_there(self):
        self.assertEqual([first_word(book=ROW), first_word(TWO), first_word(STEP)], ["a", "", ""])
        self.assertEqual([first_word(EMPTY_WORD), last_word(EMPTY_WORD)], ["", ""])
        self.assertEqual([first_word(chain(200)), last_word(chain(200))], ["a" * 199, "a" * 199])
        one = book("- b1 d2", "- c3 d3", "y a3 b4", "x", "- c4")
        self.assertEqual([first_word(one), last_word(book=one)], ["bc", "da"])

    def test_nodes_without_words_do_not_count(self):
        one = book("- a1 b2 d3", "- a1", "- a1 c4", "- d3", "z d1")
        self.assertEqual([first_word(one), last_word(one)], ["bc", "bc"])

    def test_no_words(self):
        for one in (NOTHING, book("- a0 b1", "- a1 c0"), ring(200, {})):
            self.check_no_step(first_word, one, None, shown=False)
            self.check_no_step(last_word, one, None, shown=False)

    def test_open_ends(self):
        self.check_no_step(first_word, OPEN, None, shown=True)
        self.check_no_step(last_word, OPEN, None, shown=True)
        self.check_no_step(last_word, TWO, None, shown=True)
        self.check_no_step(last_word, STEP, None, shown=True)
        self.check_no_step(last_word, ROW, None, shown=True)
        # The ring of the first way is led to by ba, and has no words of its own.
        one = book("- b1", "- a2", "- c3 d4", "- a2", "x")
        self.check_no_step(first_word, one, None, shown=True)
        self.assertEqual(last_word(one), "bad")
        self.check_no_step(first_word, book(*["- a{}".format((at + 1) % 199) for at in range(198)], "- a0 d199", "x"),
                           None, shown=True)


class NeighborsTest(StepsCase):

    def test_the_examples_of_the_document(self):
        self.assertEqual(next_word(TWO, "a"), "aa")
        self.check_no_step(previous_word, TWO, "b", shown=True)

    def test_words_that_begin_the_word(self):
        one = book("x a1 b2", "y a2", "z b1")
        self.assertEqual([next_word(one, word) for word in ("", "a")], ["a", "aa"])
        self.assertEqual([previous_word(one, word) for word in ("a", "aa")], ["", "a"])
        self.assertEqual(previous_word(book=TWO, word="aaaa"), "aaa")
        self.assertEqual(previous_word(book("x a1", "- a2", "x"), "aa"), "")

    def test_far_up_and_down_the_word(self):
        one = book("- a1 c2", "- b2 d1", "x")
        self.assertEqual(next_word(one, "ab"), "adb")
        self.assertEqual(previous_word(one, "addb"), "adb")
        self.check_no_step(previous_word, one, "c", shown=True)
        two = book("- a1 c4", "- b2 c3", "- d3", "x", "y a3")
        self.assertEqual([next_word(two, word) for word in ("abd", "ac", "c")], ["ac", "c", "ca"])
        self.assertEqual([previous_word(two, word) for word in ("ac", "c", "ca")], ["abd", "ac", "c"])
        self.check_no_step(next_word, two, "ca", shown=False)
        self.check_no_step(previous_word, two, "abd", shown=False)

    def test_no_word_on_that_side(self):
        self.check_no_step(next_word, EMPTY_WORD, "", shown=False)
        self.check_no_step(previous_word, EMPTY_WORD, "", shown=False)
        self.check_no_step(previous_word, ROW, "a", shown=False)
        self.check_no_step(previous_word, TWO, "", shown=False)
        self.check_no_step(next_word, chain(200), "a" * 199, shown=False)

    def test_words_that_fall_or_rise_to_the_word(self):
        falling = book("x b1", "- a1 b2", "x")
        self.check_no_step(next_word, falling, "", shown=True)
        self.check_no_step(next_word, book("- b1 c2", "x", "- a2 b1"), "b", shown=True)
        self.check_no_step(previous_word, STEP, "b", shown=True)
        self.assertEqual(previous_word(STEP, "bb"), "b")
        # aa, aba, abba and so on rise, and cb, cab, caab and so on fall; nothing stands between.
        one = book("- a1 b3 c2", "- a3 b1", "- a2 b3", "x")
        self.check_no_step(previous_word, one, "b", shown=True)
        self.check_no_step(next_word, one, "b", shown=True)
        self.assertEqual(next_word(one, "abba"), "abbba")
        self.assertEqual(previous_word(one, "cab"), "caab")
        self.check_no_step(last_word, book("- a1", "- a2 b1", "x"), None, shown=True)

    def test_words_beyond_40_letters(self):
        self.assertEqual(next_word(ROW, "b" * 3999 + "a"), "b" * 4000 + "a")
        self.assertEqual(previous_word(ROW, "b" * 4000 + "a"), "b" * 3999 + "a")
        self.assertEqual(next_word(ring(200, {0: "x"}), ""), "a" * 200)

    def test_errors_in_their_order(self):
        for call in (next_word, previous_word):
            for value in LETTERLESS:
                self.check_error(InvalidWord, {"word": value}, call, ROW, value)
            self.check_error(NoWord, {"word": "ab", "place": 1}, call, ROW, "ab")
            self.check_error(NoWord, {"word": "bb", "place": 2}, call, ROW, "bb")
            self.check_error(NoWord, {"word": "", "place": 0}, call, NOTHING, "")

    def test_random_books(self):
        shown = {True: 0, False: 0}
        for one, letters in random_books(91, 200, most_nodes=4):
            words = sorted(words_of(one, letters, reach_of(letters)))
            self.check_ends(one, words)
            # If there is any word beyond one of these, a word within reach is.
            few = [word for word in words if len(word) <= reach_of(letters) - 4]
            for word in random.Random(len(words)).sample(few, min(6, len(few))):
                for call, other_way in ((next_word, previous_word), (previous_word, next_word)):
                    self.check_neighbor(one, words, word, call, other_way, shown)
        self.assertGreater(min(shown.values()), 20)

    def check_ends(self, one, words):
        for call, beyond in ((first_word, min), (last_word, max)):
            try:
                found = call(one)
            except NoStep:
                self.check_no_step(call, one, None, shown=one.has_words())
            else:
                self.assertIn(found, one)
                self.assertEqual(beyond([found] + words), found)

    def check_neighbor(self, one, words, word, call, other_way, shown):
        beyond = [other for other in words if (other > word if call is next_word else other < word)]
        try:
            found = call(one, word)
        except NoStep as error:
            shown[error.paper is not None] += 1
            self.check_no_step(call, one, word, shown=bool(beyond))
        else:
            self.assertIn(found, one)
            self.assertEqual((min if call is next_word else max)([found] + beyond), found)
            self.assertEqual(other_way(one, found), word)


class UpwardTest(StepsCase):

    def test_upward(self):
        self.assertEqual(list(upward(ROW, "a", 3)), ["ba", "bba", "bbba"])
        self.assertEqual(list(upward(book=TWO, word="b", most=2)), ["ba", "baa"])
        self.assertEqual(list(upward(TWO, "", 0)), [])

    def test_until_there_is_no_next_word(self):
        one = book("x a1 b2", "y a2", "z")
        self.assertEqual(list(upward(one, "", 10 ** 30)), ["a", "aa", "b"])
        self.assertEqual(list(upward(one, "", 3)), ["a", "aa", "b"])
        self.assertEqual(list(upward(one, "", 2)), ["a", "aa"])
        self.assertEqual(list(upward(one, "b", 5)), [])
        # It stops where words fall, too.
        self.assertEqual(list(upward(book("x a1 b2", "x", "- a2 b1"), "", 9)), ["a"])

    def test_errors_come_with_the_first_item(self):
        for most in (0, 5):
            for value in LETTERLESS:
                told = upward(ROW, value, most)
                self.check_error(InvalidWord, {"word": value}, next, told)
            told = upward(ROW, "bb", most)
            self.check_error(NoWord, {"word": "bb", "place": 2}, next, told)

    def test_it_goes_on_only_when_asked(self):
        told = upward(TWO, "", 10 ** 30)
        self.assertEqual([next(told), next(told), next(told)], ["a", "aa", "aaa"])


class InBlockTest(StepsCase):

    def test_in_block(self):
        self.assertIs(in_block(TWO, "a", "aaaa"), True)
        self.assertIs(in_block(TWO, "aaaa", "a"), True)
        self.assertIs(in_block(TWO, "a", "b"), False)
        self.assertIs(in_block(book=TWO, one="b", other="b"), True)
        self.assertIs(in_block(ROW, "a", "b" * 4000 + "a"), True)
        self.assertIs(in_block(STEP, "bb", "aab"), False)
        self.assertIs(in_block(chain(1), "", ""), True)

    def test_errors_in_their_order(self):
        self.check_error(InvalidWord, {"word": 5}, in_block, ROW, 5, None)
        self.check_error(InvalidWord, {"word": None}, in_block, ROW, "b", None)
        self.check_error(NoWord, {"word": "bb", "place": 2}, in_block, ROW, "bb", "ab")
        self.check_error(NoWord, {"word": "ab", "place": 1}, in_block, ROW, "ba", "ab")
