"""Powers of a string of letters: where they lead in a net."""

from lexiconlines.nets import walked


def rounds(net, start, word, most):
    """The nodes to which word ** 0, word ** 1 and so on lead from a node, and the place to which they go back.

    The nodes are all different, and told up to the power most. The place is the index of the node
    to which the first power behind them leads; it is None if this power is beyond most or leads nowhere.
    """
    nodes = [start]
    places = {start: 0}
    while len(nodes) <= most:
        node = walked(net, nodes[-1], word)
        if node is None:
            return nodes, None
        if node in places:
            return nodes, places[node]
        places[node] = len(nodes)
        nodes.append(node)
    return nodes, None


def after_rounds(nodes, back, power):
    """The node to which a power leads, or None; nodes and back as rounds tells them."""
    if power < len(nodes):
        return nodes[power]
    if back is None:
        return None
    return nodes[back + (power - back) % (len(nodes) - back)]


def pair_starts(net, far):
    """The nodes at which the pairs of a far word begin and the node at its end, or None if it leads nowhere."""
    starts = [0]
    for word, power in far:
        nodes, back = rounds(net, starts[-1], word, power)
        node = after_rounds(nodes, back, power)
        if node is None:
            return None
        starts.append(node)
    return starts
