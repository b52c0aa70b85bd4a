"""Duels to their end, their errors and twins; replies."""

import random

from lexiconlines.books import Book
from lexiconlines.duels import Duel, reply
from lexiconlines.errors import Alike, InvalidNumber, InvalidWord, NoWord, TooDeep, TooMany, Unlike, WrongColor
from lexiconlines.languages import coded
from lexiconlines.least import least
from lexiconlines.listing import by_length
from lexiconlines.machines import book_of
from lexiconlines.profiles import profile_of
from lexiconlines.spans import above, below
from lexiconlines.telling import least_depth
from lexiconlines.terms import Term
from lexiconlines.triples import triple_of
from tests.support import (
    ANY_VALUES, EMPTY_WORD, ENDING, NOTHING, ROW, STEP, TWO, LexiconCase, book, late_book, random_books, random_term, retold)

WRONG_DEPTHS = [0, -1, 4, 10 ** 30, True, False, None, "3", (2,), [1], TWO]


def made(text):
    return book_of(Term.read(text))


def unlike_books(seed, many):
    """Pairs of books that are told apart at some depth, with the least one."""
    dice = random.Random(seed)
    while many > 0:
        colors = dice.choice(["x", "x", "xy"])
        one = random_term(dice, 3, colors)
        other = dice.choice([random_term(dice, 3, colors), one + random_term(dice, 1, colors), random_term(dice, 1, colors) + retold(dice, one)])
        if len(one) <= 20 and len(other) <= 20:
            depth = least_depth(one, other)
            if depth is not None and (depth > 1 or dice.random() < 0.2):
                many -= 1
                yield book_of(one), book_of(other), depth


class DuelTest(LexiconCase):

    def check_choice(self, duel, depth):
        """Checks that the choice is a right one, and the first right one of its book."""
        side, word = duel.choose()
        books = duel.books()
        triple = triple_of(books[side], word, depth)
        rival = profile_of(books[1 - side], depth)
        self.assertIn(triple, profile_of(books[side], depth))
        self.assertNotIn(triple, rival)
        for other in by_length(books[side], 5000):
            if other == word:
                break
            self.assertIn(triple_of(books[side], other, depth), rival)
        color = books[side].color_of(word)
        colors = {other[0] for other in profile_of(books[1 - side], 1)}
        self.assertIs(duel.won, color not in colors)
        self.assertEqual(duel.choose(), (side, word))
        return side, word, color

    def check_answer(self, duel, dice, depth):
        """Answers by any word of the right color, and checks where the duel goes on."""
        side, word, color = self.check_choice(duel, depth)
        before = duel.books()
        answers = [other for other in by_length(before[1 - side], 60) if before[1 - side].color_of(other) == color]
        answer = dice.choice(answers)
        rounds = duel.rounds
        words = (word, answer) if side == 0 else (answer, word)
        lows = [below(one, told) for one, told in zip(before, words)]
        highs = [above(one, told) for one, told in zip(before, words)]
        unlike = profile_of(lows[0], depth - 1) != profile_of(lows[1], depth - 1)
        self.assertEqual(duel.answer(answer), "below" if unlike else "above")
        self.assertEqual(duel.books(), tuple(lows if unlike else highs))
        self.assertEqual([least(one) for one in duel.books()], list(duel.books()))
        self.assertEqual((duel.rounds, repr(duel)), (rounds + 1, f"Duel({rounds + 1} rounds)"))
        return unlike

    def test_to_the_end(self):
        dice = random.Random(151)
        met = [0, 0]
        ends = {}
        for one, other, depth in unlike_books(152, 120):
            duel = Duel(one, other, depth=dice.choice([depth, 3]))
            self.assertEqual((duel.rounds, repr(duel), duel.books()), (0, "Duel(0 rounds)", (one, other)))
            last = 4
            while not duel.won:
                present = least_depth(*duel.books())
                self.assertLess(present, last)
                last = present
                met[self.check_answer(duel, dice, present)] += 1
            self.assertLess(duel.rounds, depth)
            self.check_choice(duel, 1)
            ends[duel.rounds] = True
        self.assertGreater(min(met), 20)
        self.assertEqual(sorted(ends), [0, 1, 2])

    def test_small_duels(self):
        duel = Duel(one=ROW, other=EMPTY_WORD)
        self.assertEqual((duel.won, duel.rounds), (True, 0))
        self.assertIn(duel.choose(), [(0, "a"), (1, "")])
        duel = Duel(made("x"), made("xx"), depth=2)
        self.assertIs(duel.won, False)
        side, word = duel.choose()
        self.assertIs(duel.answer(next(by_length(duel.books()[1 - side]))).__class__, str)
        self.assertEqual((duel.won, duel.rounds), (True, 1))
        self.assertEqual(sorted(len(list(by_length(one))) for one in duel.books()), [0, 1])

    def test_given_books_at_first(self):
        # The given books need not be in least form.
        one, other = book("x b1", "x b2", "x"), book("x", "y")
        duel = Duel(one, other)
        self.assertIs(duel.books()[0], one)
        self.assertIs(duel.books()[1], other)
        self.assertEqual(duel.books().__class__, tuple)

    def test_answers_ahead_of_choices(self):
        one, other = made("xxx"), made("xxxx")
        asked, silent = Duel(one, other), Duel(one, other)
        side, _ = asked.choose()
        word = list(by_length((one, other)[1 - side]))[1]
        self.assertEqual(asked.answer(word), silent.answer(word))
        self.assertEqual((asked.books(), asked.choose()), (silent.books(), silent.choose()))

    def test_random_books(self):
        books = [one for one, _ in random_books(153, 40, most_nodes=4)]
        for one, other in zip(books, books[1:]):
            for depth in (1, 2, 3):
                if profile_of(one, depth) == profile_of(other, depth):
                    self.check_error(Alike, {"depth": depth}, Duel, one, other, depth=depth)
                else:
                    self.check_choice(Duel(one, other, depth=depth), least_depth(one, other))

    def test_twins(self):
        one, other = made("xxxxx"), made("xxxxxx")
        duel = Duel(one, other)
        twin = duel.twin()
        self.assertEqual((twin.books(), twin.rounds, twin.won, twin.choose()), (duel.books(), 0, False, duel.choose()))
        side, _ = duel.choose()
        words = list(by_length((one, other)[1 - side]))
        duel.answer(words[2])
        self.assertEqual((duel.rounds, twin.rounds, twin.books()), (1, 0, (one, other)))
        later = duel.twin()
        self.assertEqual((later.rounds, later.books(), later.choose(), repr(later)), (1, duel.books(), duel.choose(), "Duel(1 rounds)"))
        self.assertEqual(twin.answer(words[2]), Duel(one, other).answer(words[2]))
        self.assertEqual(twin.books(), duel.books())
        duel.answer(list(by_length(duel.books()[1 - duel.choose()[0]]))[0])
        self.assertEqual((duel.rounds, later.rounds, twin.rounds), (2, 1, 1))


class DuelErrorTest(LexiconCase):

    def test_depths(self):
        for value in WRONG_DEPTHS:
            self.check_error(TooDeep, {"depth": value}, Duel, TWO, ROW, depth=value)
            self.check_error(TooDeep, {"depth": value}, Duel, TWO, TWO, depth=value)

    def test_lines_that_are_alike(self):
        for one, other, depth in [(TWO, TWO, 1), (TWO, ROW, 1), (TWO, ROW, 2), (ROW, STEP, 2), (NOTHING, NOTHING, 2), (made("xxx"), made("xxxx"), 2),
                                  (TWO, book("x a0 b0 c0"), 3), (made("(x)>"), made("(x)><(x)(x)>"), 3)]:
            self.check_error(Alike, {"depth": depth}, Duel, one, other, depth=depth)
        self.check_error(Alike, {"depth": 3}, Duel, made("(x)>"), made("(x)><(x)(x)>"))

    def test_answers(self):
        one, other = made("xyx"), made("xyyx")
        duel = Duel(one, other)
        side, word = duel.choose()
        books = duel.books()
        color = books[side].color_of(word)
        for value in [None, 1, True, "e", "x", "a ", ["a"], ("a",), TWO]:
            self.check_error(InvalidWord, {"word": value}, duel.answer, value)
        self.check_error(NoWord, {"word": "bb", "place": 1}, duel.answer, "bb")
        self.check_error(NoWord, {"word": "", "place": 0}, duel.answer, "")
        wrong = next(other for other in by_length(books[1 - side]) if books[1 - side].color_of(other) != color)
        self.check_error(WrongColor, {"color": books[1 - side].color_of(wrong)}, duel.answer, wrong)
        self.assertEqual((duel.rounds, duel.books(), duel.choose()), (0, books, (side, word)))

    def test_no_answer_behind_the_end(self):
        duel = Duel(made("xxy"), made("xx"))
        self.assertEqual((duel.won, duel.choose()), (True, (0, next(word for word in by_length(duel.books()[0]) if duel.books()[0].color_of(word) == "y"))))
        for word in by_length(duel.books()[1]):
            self.check_error(WrongColor, {"color": "x"}, duel.answer, word)
        self.check_error(NoWord, {"word": "", "place": 0}, duel.answer, "")
        self.assertEqual((duel.won, duel.rounds), (True, 0))

    def test_choices_late_in_short_order(self):
        last = "d" + "a" * 46
        rows = book("- a0 b1", "x")
        for other in (rows, EMPTY_WORD):
            duel = Duel(late_book(4999), other, depth=1)
            if other is rows:
                self.assertEqual((duel.choose(), duel.won), ((0, last), True))
        duel = Duel(rows, late_book(4999))
        self.assertEqual(duel.choose(), (1, last))
        for books in ((late_book(5000), rows), (rows, late_book(5000))):
            duel = Duel(*books)
            self.check_error(TooMany, {"count": 5000}, duel.choose)
            for value in ("b", "e", None, "c" * 9):
                self.check_error(TooMany, {"count": 5000}, duel.answer, value)
            self.assertEqual((duel.won, duel.rounds, duel.books(), repr(duel)), (True, 0, books, "Duel(0 rounds)"))

    def test_books_that_are_too_great(self):
        # Behind the answer the words below it, and those above it, need more than 200 nodes.
        nodes = [("", 0, at + 1, 0, None) for at in range(199)] + [("x", None, None, None, None)]
        one = Book(nodes)
        self.assertEqual(len(least(one)), 200)
        duel = Duel(one, made("xxx"))
        side, word = duel.choose()
        answer = "b" * 199 if side == 1 else next(by_length(duel.books()[1]))
        with self.assertRaises(TooMany) as caught:
            duel.answer(answer)
        self.assertGreater(caught.exception.count, 200)
        self.assertEqual((duel.rounds, duel.books()[0], duel.choose()), (0, one, (side, word)))


class ReplyTest(LexiconCase):

    def test_replies(self):
        dice = random.Random(154)
        asked = 0
        for _ in range(40):
            one = random_term(dice, 3, "xy")
            other = retold(dice, one)
            if len(one) > 20 or len(other) > 40:
                continue
            books = (book_of(one), coded(book_of(other), ["a", "ba", "bb", "c"]))
            for depth in (1, 2, 3):
                for side in (0, 1):
                    for word in by_length(books[side], 6):
                        found = reply(*books, side, word, depth)
                        triple = triple_of(books[side], word, depth)
                        self.assertEqual(triple_of(books[1 - side], found, depth), triple)
                        for ahead in by_length(books[1 - side], 5000):
                            if ahead == found:
                                break
                            self.assertNotEqual(triple_of(books[1 - side], ahead, depth), triple)
                        asked += 1
        self.assertGreater(asked, 300)

    def test_lines_with_one_profile(self):
        one, other = made("(x)>"), made("(x)><(x)(x)>")
        for depth in (1, 2, 3):
            for side, books in ((0, (one, other)), (1, (other, one))):
                for word in by_length(books[0], 10):
                    found = reply(one, other, side, word, depth)
                    self.assertEqual(triple_of(books[1], found, depth), triple_of(books[0], word, depth))
        self.assertEqual(reply(one=TWO, other=TWO, side=0, word="", depth=3), "")

    def test_errors_in_order(self):
        for value in WRONG_DEPTHS:
            self.check_error(TooDeep, {"depth": value}, reply, TWO, ROW, 2, "e", value)
        self.check_error(Unlike, {"level": 3, "sign": ""}, reply, TWO, ROW, 2, "e", 3)
        for depth in (1, 2, 3):
            self.check_error(Unlike, {"level": depth, "sign": ""}, reply, ENDING, ROW, None, None, depth)
        for value in [2, -1, True, False] + [value for value in ANY_VALUES if value.__class__ is not int]:
            self.check_error(InvalidNumber, {"number": value}, reply, TWO, ROW, value, "e", 1)
        for value in [None, 1, True, "e", ["a"], ("a",), TWO]:
            self.check_error(InvalidWord, {"word": value}, reply, TWO, ROW, 0, value, 1)
        self.check_error(NoWord, {"word": "b", "place": 1}, reply, TWO, ROW, 1, "b", 1)
        self.check_error(NoWord, {"word": "ac", "place": 1}, reply, TWO, ROW, 0, "ac", 1)

    def test_terms_that_are_too_great(self):
        great = Book([("", at + 1, at + 1, at + 1, at + 1) for at in range(7)] + [("x", None, None, None, None)])
        self.check_error(TooDeep, {"depth": 4}, reply, great, great, 2, "e", 4)
        self.check_error(InvalidNumber, {"number": 2}, reply, great, TWO, 2, "e", 1)
        self.check_error(InvalidWord, {"word": "e"}, reply, TWO, great, 1, "e", 1)
        self.check_error(NoWord, {"word": "a", "place": 1}, reply, TWO, great, 1, "a", 1)
        self.check_error(TooMany, {"count": 4000}, reply, TWO, great, 0, "a", 1)

    def test_late_replies(self):
        last = "d" + "a" * 46
        self.assertEqual(reply(ENDING, late_book(4999), 0, "b", 3), last)
        self.check_error(TooMany, {"count": 5000}, reply, ENDING, late_book(5000), 0, "b", 3)
        self.assertEqual(reply(ENDING, late_book(5000), 1, last, 3), "b")
