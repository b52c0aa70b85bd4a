"""Pieces of words at the levels of ladders, also as steps from word to word show them."""

from lexiconlines.errors import BlockEnds, InvalidNumber, InvalidWord, NoWord
from lexiconlines.far import plain
from lexiconlines.farsteps import step
from lexiconlines.keys import Ladder
from lexiconlines.listing import by_length
from lexiconlines.machines import book_of, joined
from lexiconlines.pieces import piece, pieces
from lexiconlines.rows import read_sign, spot_at
from lexiconlines.steps import in_block
from lexiconlines.terms import Term
from tests.support import ANY_VALUES, EMPTY_WORD, NOTHING, ROW, STEP, TWO, LexiconCase, book, random_books

KEY = "[[(x)>][{[(x)>]}]]"


class PiecesTest(LexiconCase):

    def test_pieces(self):
        self.assertEqual(pieces(TWO, ""), ["x", "[(x)>]", "[(x)>]", KEY])
        self.assertEqual(pieces(TWO, "aaa"), ["x", "[(x)>]", "[(x)>]", KEY])
        for word in ("b", "ab", "ba", "bbab"):
            self.assertEqual(pieces(TWO, word), ["x", "[(x)>]", "[{[(x)>]}]", KEY])
        down = "[<([(x)>])]"
        self.assertEqual(pieces(STEP, "a"), ["x", "[(x)>]", "[(x)>]", "[(x)>]", "[(x)>]", f"[[(x)>]{down}]"])
        self.assertEqual(pieces(book=STEP, word="aab"), ["x", "[(x)>]", "[(x)>]", down, down, f"[[(x)>]{down}]"])
        self.assertEqual(pieces(EMPTY_WORD, ""), ["y"])
        self.assertEqual(pieces(book("x a1", "y"), "a"), ["y", "[xy]"])
        self.assertEqual(pieces(ROW, "bbba"), ["x", "[(x)>]"])

    def test_piece(self):
        for level, sign in enumerate(["x", "[(x)>]", "[{[(x)>]}]", KEY, KEY]):
            self.assertEqual(piece(book=TWO, word="b", level=level), sign)
        self.assertEqual([piece(TWO, "b", 60), piece(EMPTY_WORD, "", 60), piece(STEP, "b", 4)], [KEY, "y", "[<([(x)>])]"])

    def test_spots_between_even_sets(self):
        even = book_of(Term.read("{x,y}"))
        one = joined(even, book("z"), even)
        words = {color: [word for word in by_length(one, 60) if one.color_of(word) == color] for color in "xyz"}
        self.assertEqual(len(words["z"]), 1)
        self.assertEqual(pieces(one, words["z"][0]), ["z", "z", "z", "[[{x,y}]z[{x,y}]]"])
        for word in words["x"] + words["y"]:
            self.assertEqual(pieces(one, word)[1:], [one.color_of(word), "[{x,y}]", "[[{x,y}]z[{x,y}]]"])
        # If the spot between bears a sign of the even sets, it is one of their spots.
        one = joined(even, book("y"), even)
        for word in by_length(one, 60):
            self.assertEqual(pieces(one, word)[2:], ["[{x,y}]"])

    def test_random_books(self):
        for one, _ in random_books(251, 200):
            ladder = Ladder(one)
            met = [set() for _ in range(ladder.end + 1)]
            for word in by_length(one, 25):
                found = pieces(one, word)
                self.assertEqual(len(found), ladder.end + 1)
                self.assertEqual((found[0], found[-1]), (one.color_of(word), ladder.key))
                for level, sign in enumerate(found):
                    met[level].add(sign)
                    self.assertEqual(piece(one, word, level), sign)
                self.assertEqual(piece(one, word, ladder.end + 3), ladder.key)
            for level, signs in enumerate(met):
                self.assertLessEqual(signs, set(ladder.signs_at(level)))
            if len(list(by_length(one, 25))) < 25:
                self.assertEqual([sorted(signs) for signs in met], [ladder.signs_at(level) for level in range(ladder.end + 1)])

    def test_blocks_are_what_steps_lead_through(self):
        met = 0
        for one, _ in random_books(252, 120):
            for word in by_length(one, 8):
                kind, told = read_sign(piece(one, word, 1))
                row = told if kind == "row" else ((), (piece(one, word, 1),), ())
                steps = {0: word}
                for direction in (1, -1):
                    for at in range(1, 13):
                        try:
                            steps[direction * at] = plain(step(one, tuple((letter, 1) for letter in word), by=direction * at))
                        except BlockEnds:
                            steps[direction * at] = None
                            break
                seen = [None if steps[at] is None else one.color_of(steps[at]) for at in sorted(steps)]
                around = [spot_at(row, at) for at in range(-30, 60)]
                self.assertTrue(any(around[at:at + len(seen)] == seen for at in range(60)), (one.text(), word))
                met += len(seen) > 3
        self.assertGreater(met, 100)

    def test_words_of_one_block_have_one_piece(self):
        for one, _ in random_books(253, 60):
            words = list(by_length(one, 12))
            for word in words:
                for other in words:
                    if in_block(one, word, other):
                        self.assertEqual(pieces(one, word)[1:], pieces(one, other)[1:])

    def test_errors(self):
        for value in [61, -1, 10 ** 30, True, False] + [value for value in ANY_VALUES if value.__class__ is not int]:
            self.check_error(InvalidNumber, {"number": value}, piece, TWO, None, value)
            self.check_error(InvalidNumber, {"number": value}, piece, ROW, "b", value)
        for value in ANY_VALUES:
            if not isinstance(value, str) or value.strip("abcd"):
                self.check_error(InvalidWord, {"word": value}, piece, TWO, value, 0)
                self.check_error(InvalidWord, {"word": value}, pieces, TWO, value)
        for one, word, place in ((ROW, "b", 1), (ROW, "", 0), (STEP, "abba", 3), (NOTHING, "", 0), (TWO, "abcab", 2)):
            self.check_error(NoWord, {"word": word, "place": place}, piece, one, word, 5)
            self.check_error(NoWord, {"word": word, "place": place}, pieces, one, word)

    def test_returned_lists_are_new(self):
        pieces(TWO, "b").clear()
        self.assertEqual(len(pieces(TWO, "b")), 4)
