"""The examples of the document, as far as their modules are there."""

from lexiconlines.books import Book
from lexiconlines.errors import NoStep
from lexiconlines.far import compare
from lexiconlines.farsteps import step
from lexiconlines.steps import first_word, next_word, previous_word
from tests.support import LexiconCase


class ExamplesTest(LexiconCase):

    def test_first_and_next_words(self):
        two = Book.read('x a0 b0\n')
        self.assertEqual([first_word(two), next_word(two, 'a'), next_word(two, 'b')], ['', 'aa', 'ba'])

    def test_no_previous_word(self):
        self.check_error(NoStep, {"word": 'b', "direction": 'down'}, previous_word, Book.read('x a0 b0\n'), 'b')

    def test_far_steps(self):
        book = Book.read('- a1 b0\nx\n')
        self.assertEqual([compare(step(book, (('a', 1),), by=10 ** 30), (('b', 10 ** 30), ('a', 1))),
                          compare(step(book, (('b', 7), ('a', 1)), by=-7), (('a', 1),))], [0, 0])
