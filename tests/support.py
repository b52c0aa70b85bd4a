"""What many tests need: books, strings, values of all kinds, and a check of errors."""

import itertools
import random
import unittest

from lexiconlines.bench import Bench
from lexiconlines.books import Book
from lexiconlines.duels import Duel
from lexiconlines.keys import Ladder
from lexiconlines.matching import Matching
from lexiconlines.ordinals import Ordinal
from lexiconlines.terms import Term

# All strings of a and b; a, ba, bba and so on; a then b; and books without endless rings.
TWO = Book.read("x a0 b0\n")
ROW = Book.read("- a1 b0\nx\n")
STEP = Book.read("x a0 b1\nx b1\n")
NOTHING = Book.read("-\n")
EMPTY_WORD = Book.read("y\n")
# All x downward, and one y behind them.
ENDING = Book.read("- a1 b2\n- a1 b3\ny\nx\n")

ANY_VALUES = [
    None, True, False, 0, 1, -1, 7, 200, 10 ** 30, 10 ** 30 + 1, "", "-", "a", "ab", "e", "A", " ", "x", "w", "xy", "\n",
    "a" * 41, (), [], ("a",), ["a"], ("", "", ""), ("x", None, None, None, None), ["x", None, None, None, None],
    (("a", 1),), [("a", 1)], (["a", 1],), ((("a",), 1),), (None, True, False), ((((((("deep",),),),),),),), TWO, [TWO],
    Term.empty(), Term.spot("x"), (Term.spot("x"),), Ladder(TWO), "[xy]", ("[xy]",), ((), (), ()), ((), ("x",), []),
    Ordinal((1, 1)), ("not", ("true",)), (("x", (), ()),), ("next", "", "a"), ("drop", "two"), Matching(ROW, ROW), Bench(),
    Duel(TWO, ROW), [Bench()], ("put", "two", TWO),
]


class LexiconCase(unittest.TestCase):
    """A test case that can check errors with their attributes."""

    def check_error(self, error, told, call, *args, **named):
        """Checks that a call raises just this error with these attributes."""
        with self.assertRaises(error) as caught:
            call(*args, **named)
        self.assertIs(caught.exception.__class__, error)
        for name, value in told.items():
            found = getattr(caught.exception, name)
            self.assertEqual(found, value, f"{error.__name__}.{name}")
            self.assertIs(found.__class__, value.__class__, f"{error.__name__}.{name}")


def book(*lines):
    """The book with these lines."""
    return Book.read("".join(line + "\n" for line in lines))


def ring(many, colors):
    """A book of so many nodes that lead around by a; colors tells which nodes have a color."""
    return Book([(colors.get(at, ""), (at + 1) % many, None, None, None) for at in range(many)])


def chain(many, color="x"):
    """A book of so many nodes that lead on by a, with a color at the end."""
    nodes = [("", at + 1, None, None, None) for at in range(many - 1)]
    return Book(nodes + [(color, None, None, None, None)])


def begun_at(one, node):
    """The book whose start is another node: the start and this node exchange their indexes."""
    places = {0: node, node: 0}
    nodes = [(row[0], *[places.get(child, child) for child in row[1:]]) for row in one.nodes()]
    nodes[0], nodes[node] = nodes[node], nodes[0]
    return Book(nodes)


def strings(letters, most):
    """All strings of these letters of at most so many letters, in short order."""
    for many in range(most + 1):
        for row in itertools.product(letters, repeat=many):
            yield "".join(row)


def short(word):
    """The key of short order."""
    return (len(word), word)


def words_of(one, letters, most):
    """The colors of the words of a book that have at most so many of these letters, in short order."""
    nodes = one.nodes()
    front = [("", 0)]
    found = {}
    for _ in range(most + 1):
        further = []
        for word, at in front:
            if nodes[at][0]:
                found[word] = nodes[at][0]
            for letter in letters:
                child = nodes[at]["abcd".index(letter) + 1]
                if child is not None:
                    further.append((word + letter, child))
        front = further
    return found


def random_book(dice, most_nodes, letters, children, colors):
    """A book with some nodes, drawn by a random source; the last two are how often children and colors occur."""
    many = dice.randint(1, most_nodes)
    nodes = []
    for _ in range(many):
        row = [dice.choice("xyz") if dice.random() < colors else ""]
        for letter in "abcd":
            row.append(dice.randrange(many) if letter in letters and dice.random() < children else None)
        nodes.append(tuple(row))
    return Book(nodes)


def random_books(seed, many, most_nodes=5):
    """Pairs of a book and its letters."""
    dice = random.Random(seed)
    for _ in range(many):
        letters = dice.choice(["a", "ab", "ab", "bd", "abc"])
        yield random_book(dice, most_nodes, letters, dice.choice([0.4, 0.6, 0.9]), dice.choice([0.2, 0.5, 0.9])), letters


def reach_of(letters):
    """A length up to which all strings of these letters can be looked through."""
    return {1: 13, 2: 8, 3: 5}[len(letters)]


def least_size(one):
    """The number of nodes of the least form, by telling live nodes apart as long as that is possible."""
    nodes = one.nodes()
    kinds = {node: nodes[node][0] for node in one.live()}
    while True:
        around = {node: (kinds[node], *[kinds.get(child) for child in nodes[node][1:]]) for node in kinds}
        numbers = {kind: number for number, kind in enumerate(dict.fromkeys(around.values()))}
        if len(numbers) == len(set(kinds.values())):
            return max(1, len(numbers))
        kinds = {node: numbers[around[node]] for node in kinds}


def random_signs(dice, most, signs):
    """A tuple of at most so many signs."""
    return tuple(dice.choice(signs) for _ in range(dice.randint(0, most)))


def random_row(dice, signs, most=4):
    """A row of these signs."""
    while True:
        row = tuple(random_signs(dice, most, signs) if dice.random() < 0.7 else () for _ in range(3))
        if any(row):
            return row


def random_term(dice, height, colors):
    """A term of at most this height."""
    chance = dice.random()
    if height == 0 or chance < 0.25:
        return Term.spot(dice.choice(colors))
    if chance < 0.5:
        return total(*[random_term(dice, height - 1, colors) for _ in range(dice.randint(2, 3))])
    if chance < 0.65:
        return random_term(dice, height - 1, colors).up()
    if chance < 0.8:
        return random_term(dice, height - 1, colors).down()
    return Term.shuffle(*[random_term(dice, height - 1, colors) for _ in range(dice.randint(1, 3))])


def random_even_term(dice, height):
    """A term in which many even sets meet one another."""
    parts = []
    for _ in range(dice.randint(1, 4)):
        chance = dice.random()
        if height == 0 or chance < 0.7:
            parts.append(Term.read(dice.choice(["{x}", "{x}", "{y}", "{x,y}", "x", "x", "y", "z"])))
        else:
            inner = random_even_term(dice, height - 1)
            other = random_even_term(dice, height - 1)
            parts.append(inner.up() if chance < 0.8 else inner.down() if chance < 0.9 else Term.shuffle(inner, other))
    return total(*parts)


def total(*terms):
    """The sum of some terms."""
    found = Term.empty()
    for one in terms:
        found = found + one
    return found


def retold(dice, term):
    """A term of the same line, written otherwise by well-known equations."""
    parts = [retold(dice, part) for part in term.parts]
    if term.kind == "sum":
        return total(*parts)
    if term.kind == "up":
        return retold_up(dice, parts[0])
    if term.kind == "down":
        # Down is up in the mirror.
        return -retold_up(dice, -parts[0])
    return retold_shuffle(dice, parts) if term.kind == "shuffle" else term


def retold_up(dice, term):
    way = dice.randrange(5)
    if way == 0:
        return term + term.up()
    if way == 1:
        return (term * dice.randint(2, 3)).up()
    if way == 2 and term.kind == "sum":
        many = dice.randint(1, len(term.parts) - 1)
        first, second = total(*term.parts[:many]), total(*term.parts[many:])
        return first + (second + first).up()
    return term.up()


def retold_shuffle(dice, parts):
    even = Term.shuffle(*parts)
    return dice.choice([
        even, even + even, even + dice.choice(parts) + even, Term.shuffle(even, *parts), even.down(),
        Term.shuffle(*parts, dice.choice(parts) + even + dice.choice(parts)), (even + dice.choice(parts)).up(),
        (dice.choice(parts) + even).down(), even.up(),
    ])


def grown(many, step):
    """A term made by so many steps from a single spot."""
    term = Term.spot("x")
    for at in range(many):
        term = step(term, at)
    return term


def late_book(many):
    """A book with the line of all x downward and one y at the end, which stands behind so many words in short order.

    Behind a, groups of 128 words of x go on downward; behind c are a few more of x; and behind d is the y.
    The number is from 4993 to 5000.
    """
    groups = [("", 1, 2, None, None)] + [("", at + 1, at + 1, None, None) for at in range(2, 9)] + [("x", None, None, None, None)]
    more = [("x", 11 + at, None, None, None) for at in range(many - 4993)] + [("x", None, None, None, None)]
    far = 10 + len(more)
    ending = [("", far + at + 1, None, None, None) for at in range(46)] + [("y", None, None, None, None)]
    return Book([("", 1, None, 10, far)] + groups + more + ending)


def random_formula(dice, nesting, colors):
    """A formula that nests at most so deep."""
    kind = dice.choice(["true", "false", "not", "and", "or", "some", "some", "some"]) if nesting > 0 else dice.choice(["true", "false"])
    if kind in ("true", "false"):
        return (kind,)
    many = {"not": 1, "some": 2}.get(kind) or dice.randint(2, 3)
    parts = [random_formula(dice, nesting - 1, colors) for _ in range(many)]
    return (kind, dice.choice(colors), *parts) if kind == "some" else (kind, *parts)


def bench_with(**books):
    """A bench that keeps some books."""
    bench = Bench()
    bench.keep(**books)
    return bench
