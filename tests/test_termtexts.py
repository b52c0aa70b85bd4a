"""Term.read: texts of terms, and the place of what is wrong in them."""

import itertools
import random
import re

from lexiconlines.errors import InvalidTerm
from lexiconlines.terms import Term
from tests.support import ANY_VALUES, LexiconCase, random_term

MARKS = "x0(){}<>,"


def is_text(text):
    """Whether a text is read as a term, by writing t for what is one until nothing changes."""
    if text == "0":
        return True
    if "t" in text:
        return False
    before, text = "", re.sub("[xyz]", "t", text)
    while text != before:
        before = text
        text = re.sub("tt+", "t", text)
        text = re.sub(r"<\(t\)", "t", text)
        text = re.sub(r"(?<!<)\(t\)>", "t", text)
        text = re.sub(r"{t(,t)*}", "t", text)
    return text == "t"


def can_go_on(text):
    """Whether some text that is read begins with a text; only a little must be put behind it."""
    for middle in ("", "x", "(x)", ">", "(x"):
        closing = ""
        for at, mark in enumerate(text + middle):
            if mark in "({":
                down = (text + middle)[at - 1:at] == "<"
                closing = ("}" if mark == "{" else ")" if down else ")>") + closing
            elif closing[:1] == mark:
                closing = closing[2:] if closing[:2] == ")>" else closing[1:]
        if is_text(text + middle + closing):
            return True
    return text == ""


class ReadTest(LexiconCase):

    def check_place(self, text, place):
        self.check_error(InvalidTerm, {"place": place}, Term.read, text)

    def test_texts(self):
        for text in ("0", "x", "xyz", "(x)>", "<(x)", "{x}", "{x,y}", "x(xy)><(z){x,{y}}", "{(x)>,<(x),xx}", "((x)>)>", "<(<(x))",
                     "{{{x}}}", "(<({x}))>"):
            self.assertEqual(Term.read(text).text(), text)
            self.assertEqual(Term.read(text=text).text(), text)
            self.assertIs(is_text(text), True)

    def test_pieces_in_any_order(self):
        self.assertEqual(Term.read("{y,x,y}").text(), "{x,y}")
        self.assertEqual(Term.read("{yx,{z,x},<(y),(x)>,yx}").text(), "{(x)>,<(y),yx,{x,z}}")
        self.assertEqual(Term.read("{x,x,x}").text(), "{x}")

    def test_wrong_places(self):
        for text, place in [
            ("{x,(y)}", 6), ("00", 1), ("0x", 1), ("x0", 1), ("(0)>", 1), ("{0}", 1), ("w", 0), ("X", 0), (" x", 0), ("x ", 1),
            ("()>", 1), ("<()", 2), ("{}", 1), ("{,x}", 1), ("{x,}", 3), ("{x,,x}", 3), ("<x", 1), ("<<(x)", 1), ("<{x}", 1),
            ("<(x)>", 4), ("(x)x", 3), ("(x))", 3), ("(x}", 2), ("{x)", 2), ("x)", 1), ("x}", 1), ("x,x", 1), ("(x,x)>", 2),
            ("x>", 1), (">", 0), (")", 0), ("}", 0), (",", 0), ("{x}}", 3), ("[xy]", 0), ("x\n", 1), ("xy[", 2), ("{(x)>>}", 5),
        ]:
            self.check_place(text, place)

    def test_texts_that_end_too_early(self):
        for text in ("", "<", "(", "{", "<(", "(x", "(x)", "{x", "{x,", "<(x", "{x,(y)", "x(", "x{<", "((x)>", "{x,{y}"):
            self.check_place(text, len(text))

    def test_brackets_twenty_deep(self):
        for ahead, behind in (("(", ")>"), ("<(", ")"), ("{", "}")):
            text = ahead * 20 + "x" + behind * 20
            self.assertEqual(Term.read(text).height, 20)
            self.check_place(ahead * 21 + "x" + behind * 21, 20 * len(ahead))
            self.check_place(ahead * 20, 20 * len(ahead))
            self.check_place(ahead * 20 + "xy<(", 20 * len(ahead) + 2)
            self.assertEqual(Term.read(text * 3 + "x"), Term.read(text) * 3 + Term.spot("x"))
        text = "{(<(" * 6 + "{(x)>}" + "))>}" * 6
        self.assertEqual(Term.read(text).height, 20)
        self.check_place(text.replace("x", "(x)>"), 26)

    def test_values_that_are_no_strings(self):
        for value in ANY_VALUES:
            if not isinstance(value, str):
                self.check_place(value, 0)
        self.check_place(["x"], 0)

    def test_long_texts(self):
        self.assertEqual(len(Term.read("x" * 4000)), 4000)
        self.check_place("x" * 3999 + ")", 3999)

    def test_all_short_texts(self):
        for many in range(6):
            for row in itertools.product(MARKS, repeat=many):
                text = "".join(row)
                if is_text(text):
                    self.assertIs(Term.read(text).is_empty, text == "0")
                else:
                    with self.assertRaises(InvalidTerm) as caught:
                        Term.read(text)
                    place = caught.exception.place
                    self.assertIs(can_go_on(text[:place]), True, text)
                    self.assertIs(place == len(text) or not can_go_on(text[:place + 1]), True, text)

    def test_random_texts(self):
        dice = random.Random(181)
        for _ in range(300):
            one = random_term(dice, 4, "xyz")
            self.assertEqual(Term.read(one.text()), one)
            at = dice.randrange(len(one.text()))
            text = one.text()[:at] + dice.choice(MARKS) + one.text()[at + dice.randrange(2):]
            if not is_text(text):
                with self.assertRaises(InvalidTerm) as caught:
                    Term.read(text)
                place = caught.exception.place
                self.assertIs(can_go_on(text[:place]), True, text)
                self.assertIs(place == len(text) or not can_go_on(text[:place + 1]), True, text)
