"""How one walks within the classes of a book: class letters, sides, ways and gaps."""

from lexiconlines.classes import class_heads, fellows_of, letters_within
from lexiconlines.errors import UnknownNode
from lexiconlines.nodes import PLACES, is_index


def class_ways(book, node):
    """The ClassWays of a book; raises UnknownNode for any value that is no index of a node of a class."""
    ways = ClassWays(book)
    if not is_index(node, len(book)) or not ways.has_class(node):
        raise UnknownNode(node)
    return ways


class ClassWays:
    """The nodes of a book with what is known of their classes; it never changes."""

    def __init__(self, book):
        self._net = book.nodes()
        self._heads = class_heads(book)
        self._letters = [letters_within(self._net, self._heads, node) for node in range(len(self._net))]

    def has_class(self, node):
        """Whether a node is of a class."""
        return self._heads[node] is not None

    def are_fellows(self, one, other):
        """Whether two nodes are of one class."""
        return self.has_class(one) and self._heads[one] == self._heads[other]

    def head(self, node):
        """The least node of the class of a node."""
        return self._heads[node]

    def fellows(self, node):
        """The ascending list of the nodes of the class of a node."""
        return fellows_of(self._heads, node)

    def letters(self, node):
        """The string of the class letters of a node, ascending."""
        return self._letters[node]

    def neighbors(self, node):
        """The pairs of class letters of a node with no class letter between, ascending."""
        letters = self._letters[node]
        return [(low, high) for low, high in zip(letters, letters[1:])]

    def child(self, node, letter):
        """The child of a node by a letter, or None."""
        return self._net[node][PLACES[letter]]

    def left_children(self, node):
        """The children by letters below the first class letter, in order."""
        first = self._letters[node][0]
        return self._children(node, [letter for letter in PLACES if letter < first])

    def right_children(self, node):
        """The children by letters above the last class letter, in order."""
        last = self._letters[node][-1]
        return self._children(node, [letter for letter in PLACES if letter > last])

    def inner_children(self, node, low, high):
        """The children by letters between two letters, in order."""
        return self._children(node, [letter for letter in PLACES if low < letter < high])

    def way(self, node, last):
        """The pair of the lead and the ring of the first way of a node, or of the last way."""
        places = {}
        nodes = []
        while node not in places:
            places[node] = len(nodes)
            nodes.append(node)
            node = self.child(node, self._letters[node][-1 if last else 0])
        return nodes[:places[node]], nodes[places[node]:]

    def kinds(self, node):
        """The ascending list of the kinds of gap of the class of a node."""
        return [(fellow, low, high) for fellow in self.fellows(node) for low, high in self.neighbors(fellow)]

    def path(self, node, goal):
        """A shortest string of class letters that leads from a node to another one of its class."""
        strings = {node: ""}
        front = [node]
        while goal not in strings:
            further = []
            for at in front:
                for letter in self._letters[at]:
                    child = self.child(at, letter)
                    if child not in strings:
                        strings[child] = strings[at] + letter
                        further.append(child)
            front = further
        return strings[goal]

    def _children(self, node, letters):
        children = [self.child(node, letter) for letter in letters]
        return [child for child in children if child is not None]
