"""First and last ways of nodes, and the kinds of gap of their classes."""

from lexiconlines.classways import class_ways


def first_way(book, node):
    """The pair of the lead and the ring of the first way of a node of a class."""
    return class_ways(book, node).way(node, False)


def last_way(book, node):
    """The pair of the lead and the ring of the last way of a node of a class."""
    return class_ways(book, node).way(node, True)


def kinds_of_gap(book, node):
    """The ascending list of the kinds of gap of the class of a node."""
    return class_ways(book, node).kinds(node)
