"""The examples of the document."""

from lexiconlines.alllines import all_profiles
from lexiconlines.bench import Bench
from lexiconlines.books import Book
from lexiconlines.errors import InvalidTerm, NoStep
from lexiconlines.evens import second_folding
from lexiconlines.far import compare
from lexiconlines.farsteps import step
from lexiconlines.folding import first_folding
from lexiconlines.formulas import read_formula
from lexiconlines.keys import Ladder, key_of, same_line
from lexiconlines.matching import Matching
from lexiconlines.ordinals import Ordinal
from lexiconlines.parting import parting
from lexiconlines.plain import term_of
from lexiconlines.profiles import holds, profile_of
from lexiconlines.steps import first_word, next_word, previous_word
from lexiconlines.terms import Term
from lexiconlines.wells import ordinal_of
from tests.support import LexiconCase


class ExamplesTest(LexiconCase):

    def test_first_and_next_words(self):
        two = Book.read('x a0 b0\n')
        self.assertEqual([first_word(two), next_word(two, 'a'), next_word(two, 'b')], ['', 'aa', 'ba'])

    def test_no_previous_word(self):
        self.check_error(NoStep, {"word": 'b', "direction": 'down'}, previous_word, Book.read('x a0 b0\n'), 'b')

    def test_far_steps(self):
        book = Book.read('- a1 b0\nx\n')
        self.assertEqual([compare(step(book, (('a', 1),), by=10 ** 30), (('b', 10 ** 30), ('a', 1))),
                          compare(step(book, (('b', 7), ('a', 1)), by=-7), (('a', 1),))], [0, 0])

    def test_keys(self):
        two = Book.read('x a0 b0\n')
        three = Book.read('x a0 b0 c0\n')
        self.assertEqual([term_of(two).text(), key_of(two), same_line(two, three)],
                         ['(x)>{(x)>}', '[[(x)>][{[(x)>]}]]', True])

    def test_ladders(self):
        book = Book.read('x a0 b1\nx b1\n')
        ladder = Ladder(book)
        self.assertEqual([term_of(book).text(), ladder.term_at(1).text(), ladder.signs_at(3), ladder.end, ladder.key],
                         ['(x)><((x)>)', '[(x)>]<([(x)>])', ['[(x)>]', '[<([(x)>])]'], 5, '[[(x)>][<([(x)>])]]'])

    def test_foldings(self):
        self.assertEqual([first_folding(Term.read('(x(x)>)>')).text(), second_folding(Term.read('{x,y}x{y,x}')).text(),
                          second_folding(Term.read('{x}y{x}')).text(), second_folding(Term.read('(x{x})>')).text()],
                         ['[(x)>]([(x)>])>', '[{x,y}]', '[{x}]y[{x}]', 'x[{x}]'])

    def test_wrong_terms(self):
        self.check_error(InvalidTerm, {"place": 6}, Term.read, '{x,(y)}')

    def test_parting(self):
        self.assertEqual(parting(Book.read('x a0\n'), Book.read('x a0 b0\n')), (2, 1, '[{[(x)>]}]', 'b'))

    def test_matchings(self):
        matching = Matching(Book.read('- a1 b0\nx\n'), Book.read('- a1\nx a1\n'))
        self.assertEqual([matching.mate(0, 'ba'), matching.mate(1, 'a'), matching.pairs()], ['aa', 'a', [('a', 'a'), ('ba', 'aa')]])

    def test_ordinals(self):
        self.assertEqual([ordinal_of(Term.read('(x(y)>)>xx')).text(), (Ordinal((1, 1)) + Ordinal((1, 2), (0, 5))).text(),
                          (Ordinal((0, 2)) * Ordinal((1, 1))).text()], ['w^2+2', 'w*3+5', 'w'])

    def test_formulas(self):
        last = read_formula('some x [true | not some x [true | true]]')
        self.assertEqual([holds(Term.read('<(x)'), last), holds(Term.read('(x)>'), last), profile_of(Term.read('(x)>'), 2)],
                         [True, False, (('x', (), (('x', (), ()),)), ('x', (('x', (), ()),), (('x', (), ()),)))])

    def test_all_lines(self):
        self.assertEqual([len(all_profiles(1, 1)), len(all_profiles(2, 1)), len(all_profiles(1, 2))], [2, 4, 7])

    def test_benches(self):
        bench = Bench()
        bench.do(('put', 'two', Book.read('x a0 b0\n')), ('put', 'row', Book.read('x a0\n')))
        self.assertEqual([bench('names'), bench('words two 4'), bench('next two b'), bench('ordinal row'), bench('same two row'),
                          bench('key six'), bench.steps()], ['row two', '- a b aa', 'ba', 'w', 'no', 'error UnknownName', (1, 0)])
