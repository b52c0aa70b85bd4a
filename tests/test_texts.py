"""Book.read: texts of books and their errors."""

from lexiconlines.books import Book
from lexiconlines.errors import InvalidText
from tests.support import ANY_VALUES, TWO, LexiconCase, chain, random_books


class ReadTest(LexiconCase):

    def check_text(self, text, line, why):
        self.check_error(InvalidText, {"line": line, "why": why}, Book.read, text)

    def test_forms_of_lines(self):
        for text, nodes in {
            "-\n": [("", None, None, None, None)],
            "x\n": [("x", None, None, None, None)],
            "z a0 b0 c0 d0\n": [("z", 0, 0, 0, 0)],
            "- d0\ny c1\n": [("", None, None, None, 0), ("y", None, None, 1, None)],
        }.items():
            self.assertEqual(Book.read(text).nodes(), nodes)
            self.assertEqual(Book.read(text=text).text(), text)

    def test_indexes_of_one_to_three_digits(self):
        rest = "x\n" * 199
        for index in (0, 7, 10, 99, 100, 199):
            self.assertEqual(Book.read(f"- b{index}\n" + rest).nodes()[0], ("", None, index, None, None))
        self.check_text("- b200\n" + rest, 200, "node")
        for index in ("00", "01", "007", "000", "1000", "0000", "", "-1", "+1", "1 ", "x", "1a", "a"):
            self.check_text(f"- b{index}\n" + rest, 0, "form")

    def test_wrong_lines(self):
        for line in ("", " ", "w", "xy", "X", "--", "x ", " x", "x  a0", "x a0 ", "x a", "x 0", "x e0", "x a0b0", "x b0 a0",
                     "x a0 a0", "x a0 c0 b0", "a0", "- a0\t", "xa0", "x,a0", "x a-", "x A0", "x a0\r"):
            self.check_text(line + "\n", 0, "form")
            self.check_text("x\nx\n" + line + "\nx\n", 2, "form")

    def test_missing(self):
        self.check_text("", 0, "missing")

    def test_empty_lines(self):
        self.check_text("\n", 0, "form")
        self.check_text("x\n\n", 1, "form")

    def test_last_line_without_line_feed(self):
        self.check_text("x", 0, "form")
        self.check_text("x a0\ny", 1, "form")
        self.check_text("x\n ", 1, "form")
        self.check_text("x\n" * 200 + "x", 200, "form")

    def test_no_more_than_200_lines(self):
        self.assertEqual(len(Book.read("x\n" * 200)), 200)
        self.check_text("x\n" * 201, 200, "many")
        self.check_text("x\n" * 205 + "wrong\n", 200, "many")
        self.check_text("x\n" * 200 + "wrong\n", 200, "form")
        self.check_text("x\n" * 200 + "\n", 200, "form")
        self.check_text("x\n" * 100 + "wrong\n" + "x\n" * 200, 100, "form")

    def test_children_that_are_no_index(self):
        self.check_text("x a1\n", 1, "node")
        self.check_text("x a0 d3\nx\nx\n", 3, "node")
        self.check_text("x\nx b999\n", 2, "node")
        # A wrong form counts first, wherever it stands, and so do too many lines.
        self.check_text("x a9\nwrong\n", 1, "form")
        self.check_text("x a9\nx", 1, "form")
        self.check_text("x a999\n" * 201, 200, "many")

    def test_values_that_are_no_string(self):
        for value in ANY_VALUES:
            if not isinstance(value, str):
                self.check_text(value, 0, "form")

    def test_texts_of_books_are_read(self):
        for one, _ in random_books(21, 60):
            self.assertEqual(Book.read(one.text()), one)
        self.assertEqual(Book.read(chain(200).text()), chain(200))
        self.assertEqual(Book.read(str(TWO)), TWO)

    def test_read_is_called_off_the_class_and_off_books(self):
        self.assertEqual(TWO.read("x\n"), Book.read("x\n"))
