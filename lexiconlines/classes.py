"""Classes of nodes that lead to one another."""

from lexiconlines.errors import UnknownNode
from lexiconlines.nets import word_lengths
from lexiconlines.nodes import PLACES, is_index


def classes(book):
    """The list of the classes, each as an ascending list of nodes, ascending."""
    members = {}
    for node, head in enumerate(class_heads(book)):
        if head is not None:
            members.setdefault(head, []).append(node)
    return list(members.values())


def class_of(book, node):
    """The list of the nodes of the class of a node, empty if it is of none."""
    _check_node(book, node)
    return fellows_of(class_heads(book), node)


def class_letters(book, node):
    """The string of the letters by which a node leads to a child of its class, ascending."""
    _check_node(book, node)
    return letters_within(book.nodes(), class_heads(book), node)


def branches(book, node):
    """Whether a node is of a class that branches."""
    _check_node(book, node)
    net = book.nodes()
    heads = class_heads(book)
    return any([len(letters_within(net, heads, other)) >= 2 for other in fellows_of(heads, node)])


def class_heads(book):
    """For each node the least node of its class, or None if it is of no class."""
    heads = []
    first = {}
    # The nodes of a class lead to just the same nodes, themselves among them, and others do not.
    for node, reached in enumerate(_reached_nodes(book)):
        if reached >> node & 1:
            heads.append(first.setdefault(reached, node))
        else:
            heads.append(None)
    return heads


def _reached_nodes(book):
    """For each node the nodes with words to which a string of at least one letter leads, as bits of a number."""
    lengths = word_lengths(book.nodes())
    reached = []
    for node in book.nodes():
        children = {child: True for child in node[1:] if child is not None and lengths[child] is not None}
        reached.append(sum([1 << child for child in children]))
    for between in range(len(reached)):
        for node in range(len(reached)):
            if reached[node] >> between & 1:
                reached[node] = reached[node] | reached[between]
    return reached


def fellows_of(heads, node):
    """The nodes of the class of a node, from what class_heads tells; none if it is of no class."""
    return [other for other, head in enumerate(heads) if head is not None and head == heads[node]]


def letters_within(net, heads, node):
    """The class letters of a node, from what class_heads tells; none if it is of no class."""
    if heads[node] is None:
        return ""
    children = [(letter, net[node][place]) for letter, place in PLACES.items()]
    return "".join([letter for letter, child in children if child is not None and heads[child] == heads[node]])


def _check_node(book, node):
    if not is_index(node, len(book)):
        raise UnknownNode(node)
