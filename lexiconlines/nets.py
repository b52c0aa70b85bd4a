"""Nets: lists of nodes of any length, from which books are made.

A string leads through a net as it leads through a book; the node 0 is the start.
"""

from lexiconlines.nodes import BARE, PLACES


def walked(net, start, word):
    """The node to which a string of letters leads from a node, or None."""
    node = start
    for letter in word:
        node = net[node][PLACES[letter]]
        if node is None:
            return None
    return node


def trail(net, start, word):
    """The nodes that a string of letters passes from a node on, that node included, as far as it leads."""
    nodes = [start]
    for letter in word:
        child = net[nodes[-1]][PLACES[letter]]
        if child is None:
            return nodes
        nodes.append(child)
    return nodes


def parents_of(net):
    """For each node the list of the nodes that have it as a child, once for each letter."""
    parents = [[] for _ in net]
    for at, node in enumerate(net):
        for child in node[1:]:
            if child is not None:
                parents[child].append(at)
    return parents


def word_lengths(net):
    """For each node the length of its shortest words, or None if it has no words."""
    parents = parents_of(net)
    lengths = [None if node[0] == "" else 0 for node in net]
    front = [at for at, node in enumerate(net) if node[0] != ""]
    while front:
        further = []
        for at in front:
            for parent in parents[at]:
                if lengths[parent] is None:
                    lengths[parent] = lengths[at] + 1
                    further.append(parent)
        front = further
    return lengths


def shortest_word(net, lengths, node):
    """The first word, in short order, of a node that has words; lengths as word_lengths tells them."""
    word = ""
    while lengths[node] > 0:
        for letter, place in PLACES.items():
            child = net[node][place]
            if child is not None and lengths[child] == lengths[node] - 1:
                word = word + letter
                node = child
                break
    return word


def shortest_way(net, goal):
    """The first string, in short order, that leads from the start to a node to which one leads."""
    # If this node alone had a color, the strings that lead to it would be all words.
    marked = [("x" if at == goal else "",) + node[1:] for at, node in enumerate(net)]
    return shortest_word(marked, word_lengths(marked), 0)


def word_counts(net):
    """For each node the number of its words, or None if it has infinitely many."""
    lengths = word_lengths(net)
    parents = parents_of(net)
    counts = [0 if length is None else None for length in lengths]
    # How many children with words are not counted yet; nodes on rings and ahead of rings keep some.
    waiting = [len([child for child in node[1:] if child is not None and lengths[child] is not None])
               for node in net]
    ready = [at for at in range(len(net)) if waiting[at] == 0 and lengths[at] is not None]
    while ready:
        at = ready.pop()
        color, *children = net[at]
        own = 0 if color == "" else 1
        counts[at] = own + sum([counts[child] for child in children if child is not None])
        for parent in parents[at]:
            waiting[parent] -= 1
            if waiting[parent] == 0:
                ready.append(parent)
    return counts


def pair_of_nodes(one, other, pair):
    """The nodes of two nets at a pair of indexes; None stands for a node without words."""
    left, right = pair
    return (BARE if left is None else one[left], BARE if right is None else other[right])


def shifted(node, shift):
    """A node whose children have indexes greater by a number."""
    color, *children = node
    return (color,) + tuple([None if child is None else child + shift for child in children])


def behind_others(net, many):
    """The nodes of a net as they stand behind so many other nodes."""
    return [shifted(node, many) for node in net]
