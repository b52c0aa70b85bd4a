"""Reading the texts of benches."""

from lexiconlines.books import MOST_NODES, Book
from lexiconlines.deeds import MOST_BOOKS
from lexiconlines.errors import InvalidText
from lexiconlines.nodes import is_node, read_node
from lexiconlines.words import is_name


def state_of(text):
    """The state of the bench with a text."""
    if not isinstance(text, str):
        raise InvalidText(0, "form")
    lines = text.split("\n")
    behind = lines.pop()
    reader = BenchReader()
    for at, line in enumerate(lines):
        why = reader.taken(line)
        if why != "":
            raise InvalidText(at, why)
    if behind != "":
        raise InvalidText(len(lines), "form")
    if not reader.may_end():
        raise InvalidText(len(lines), "missing")
    return reader.state()


class BenchReader:
    """What the lines of a text have told so far."""

    def __init__(self):
        self._books = {}
        self._most = 0
        self._name = ""
        self._nodes = []
        # What the next line must be: the limit, the begin of a book, or a node of a book or its end.
        self._awaited = "limit"

    def taken(self, line):
        """Takes in the next line; the word that tells why it cannot stand, or the empty string."""
        if self._awaited == "limit":
            return self._taken_limit(line)
        if self._awaited == "book":
            return self._taken_begin(line)
        return self._taken_end() if line == "end" else self._taken_node(line)

    def may_end(self):
        """Whether the text may end here."""
        return self._awaited == "book"

    def state(self):
        """The state that the whole text tells."""
        return (self._books, self._most)

    def _taken_limit(self, line):
        numbers = {f"limit {number}": number for number in range(1, MOST_BOOKS + 1)}
        if line not in numbers:
            return "form"
        self._most = numbers[line]
        self._awaited = "book"
        return ""

    def _taken_begin(self, line):
        word, _, name = line.partition(" ")
        if word != "book" or not is_name(name):
            return "form"
        if len(self._books) == self._most:
            return "many"
        if name <= self._name:
            return "order"
        self._name = name
        self._nodes = []
        self._awaited = "node"
        return ""

    def _taken_node(self, line):
        node = read_node(line)
        if node is None:
            return "form"
        if len(self._nodes) == MOST_NODES:
            return "many"
        self._nodes.append(node)
        return ""

    def _taken_end(self):
        if not self._nodes or not all([is_node(node, len(self._nodes)) for node in self._nodes]):
            return "node"
        self._books[self._name] = Book(self._nodes)
        self._awaited = "book"
        return ""
