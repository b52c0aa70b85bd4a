"""Nodes: their form and their texts."""

from lexiconlines.values import is_number_in
from lexiconlines.words import is_color

# Where the child by a letter stands in a node.
PLACES = {"a": 1, "b": 2, "c": 3, "d": 4}
# The node without color and children.
BARE = ("", None, None, None, None)
_DIGITS = "0123456789"


def is_index(value, many):
    """Whether any value is the index of one of so many nodes."""
    return is_number_in(value, 0, many - 1)


def is_node(value, many):
    """Whether any value is a node of a book with so many nodes."""
    if not isinstance(value, tuple) or len(value) != 5:
        return False
    if value[0] != "" and not is_color(value[0]):
        return False
    return all([child is None or is_index(child, many) for child in value[1:]])


def node_text(node):
    """The text of a node, without a line feed."""
    children = [f" {letter}{node[place]}" for letter, place in PLACES.items() if node[place] is not None]
    return (node[0] or "-") + "".join(children)


def read_node(line):
    """The node with a text, whatever indexes it has, or None if it is the text of no node."""
    head, *pieces = line.split(" ")
    if head != "-" and not is_color(head):
        return None
    node = ["" if head == "-" else head, None, None, None, None]
    ahead = 0
    for piece in pieces:
        place = PLACES.get(piece[:1], 0)
        if place <= ahead or not _is_index_text(piece[1:]):
            return None
        node[place] = int(piece[1:])
        ahead = place
    return tuple(node)


def _is_index_text(text):
    if text.strip(_DIGITS) != "" or not 1 <= len(text) <= 3:
        return False
    return text == "0" or text[0] != "0"
