"""Books: machines that accept words and give them colors."""

from lexiconlines.errors import InvalidNode, InvalidText, NoWord, TooMany
from lexiconlines.nets import trail, walked, word_lengths
from lexiconlines.nodes import is_node, node_text, read_node
from lexiconlines.values import is_list
from lexiconlines.words import check_letters, is_letters

MOST_NODES = 200


class Book:
    """A book; it never changes."""

    def __init__(self, nodes):
        if not is_list(nodes) or len(nodes) == 0:
            raise InvalidNode(-1)
        if len(nodes) > MOST_NODES:
            raise TooMany(len(nodes))
        for at, node in enumerate(nodes):
            if not is_node(node, len(nodes)):
                raise InvalidNode(at)
        self._nodes = list(nodes)
        self._lengths = word_lengths(self._nodes)

    def nodes(self):
        """The list of the nodes."""
        return list(self._nodes)

    def node_at(self, word, *, start=0):
        """The index of the node to which a string of letters leads from a node, or None."""
        return walked(self._nodes, start, word)

    def color_of(self, word):
        """The color of a word of the book, otherwise the empty string."""
        check_letters(word)
        node = walked(self._nodes, 0, word)
        return "" if node is None else self._nodes[node][0]

    def check(self, word):
        """The color of a word of the book; raises NoWord with the place from which it is none."""
        color = self.color_of(word)
        if color == "":
            raise NoWord(word, len(trail(self._nodes, 0, word)) - 1)
        return color

    def live(self):
        """The ascending list of the nodes that have words and to which a string leads from the start."""
        seen = [0]
        reached = {0: True}
        while seen:
            for child in self._nodes[seen.pop()][1:]:
                if child is not None and child not in reached:
                    reached[child] = True
                    seen.append(child)
        return sorted([node for node in reached if self.has_words(node)])

    def has_words(self, node=0):
        """Whether a node has words."""
        return self._lengths[node] is not None

    def text(self):
        """The text of the book."""
        return "".join([node_text(node) + "\n" for node in self._nodes])

    @staticmethod
    def read(text):
        """The book with a text."""
        if not isinstance(text, str):
            raise InvalidText(0, "form")
        lines = text.split("\n")
        behind = lines.pop()
        nodes = []
        for at, line in enumerate(lines):
            node = read_node(line)
            if node is None:
                raise InvalidText(at, "form")
            if at == MOST_NODES:
                raise InvalidText(at, "many")
            nodes.append(node)
        if behind != "":
            raise InvalidText(len(lines), "form")
        if not nodes:
            raise InvalidText(0, "missing")
        if not all([is_node(node, len(nodes)) for node in nodes]):
            raise InvalidText(len(nodes), "node")
        return Book(nodes)

    def __contains__(self, value):
        return is_letters(value) and self.color_of(value) != ""

    def __eq__(self, other):
        return isinstance(other, Book) and self._nodes == other._nodes

    def __len__(self):
        return len(self._nodes)

    def __str__(self):
        return f"{self.text()}"

    def __repr__(self):
        return f"Book({len(self._nodes)} nodes)"
