"""The examples of the document, as far as their modules are there."""

from lexiconlines.books import Book
from lexiconlines.errors import InvalidTerm, NoStep
from lexiconlines.evens import second_folding
from lexiconlines.far import compare
from lexiconlines.farsteps import step
from lexiconlines.folding import first_folding
from lexiconlines.keys import Ladder, key_of, same_line
from lexiconlines.parting import parting
from lexiconlines.plain import term_of
from lexiconlines.steps import first_word, next_word, previous_word
from lexiconlines.terms import Term
from tests.support import LexiconCase


class ExamplesTest(LexiconCase):

    def test_first_and_next_words(self):
        two = Book.read('x a0 b0\n')
        self.assertEqual([first_word(two), next_word(two, 'a'), next_word(two, 'b')], ['', 'aa', 'ba'])

    def test_no_previous_word(self):
        self.check_error(NoStep, {"word": 'b', "direction": 'down'}, previous_word, Book.read('x a0 b0\n'), 'b')

    def test_far_steps(self):
        book = Book.read('- a1 b0\nx\n')
        self.assertEqual([compare(step(book, (('a', 1),), by=10 ** 30), (('b', 10 ** 30), ('a', 1))),
                          compare(step(book, (('b', 7), ('a', 1)), by=-7), (('a', 1),))], [0, 0])

    def test_keys(self):
        two = Book.read('x a0 b0\n')
        three = Book.read('x a0 b0 c0\n')
        self.assertEqual([term_of(two).text(), key_of(two), same_line(two, three)],
                         ['(x)>{(x)>}', '[[(x)>][{[(x)>]}]]', True])

    def test_ladders(self):
        book = Book.read('x a0 b1\nx b1\n')
        ladder = Ladder(book)
        self.assertEqual([term_of(book).text(), ladder.term_at(1).text(), ladder.signs_at(3), ladder.end, ladder.key],
                         ['(x)><((x)>)', '[(x)>]<([(x)>])', ['[(x)>]', '[<([(x)>])]'], 5, '[[(x)>][<([(x)>])]]'])

    def test_foldings(self):
        self.assertEqual([first_folding(Term.read('(x(x)>)>')).text(), second_folding(Term.read('{x,y}x{y,x}')).text(),
                          second_folding(Term.read('{x}y{x}')).text(), second_folding(Term.read('(x{x})>')).text()],
                         ['[(x)>]([(x)>])>', '[{x,y}]', '[{x}]y[{x}]', 'x[{x}]'])

    def test_wrong_terms(self):
        self.check_error(InvalidTerm, {"place": 6}, Term.read, '{x,(y)}')

    def test_parting(self):
        self.assertEqual(parting(Book.read('x a0\n'), Book.read('x a0 b0\n')), (2, 1, '[{[(x)>]}]', 'b'))
