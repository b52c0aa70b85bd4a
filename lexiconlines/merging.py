"""Which nodes of a net have the same words with the same colors."""

from lexiconlines.nets import parents_of


class Merging:
    """Blocks of nodes that nothing has told apart so far.

    The blocks lie one behind the other in one row of all nodes. Nodes that must be looked at
    again, since a child of theirs has come into another block, wait at the front of their block.
    When a block is split, its largest part keeps the number of the block, so that each node gets
    a new number only a few times.
    """

    def __init__(self, net):
        self._net = net
        self._parents = parents_of(net)
        self._row = list(range(len(net)))
        self._at = list(range(len(net)))
        self._block = [0] * len(net)
        self._first = [0]
        self._behind = [len(net)]
        self._waiting = [len(net)]
        self._queue = [0]

    def blocks(self):
        """For each node the number of its block; equal numbers mean equal words and colors."""
        while self._queue:
            self._split(self._queue.pop())
        return list(self._block)

    def _split(self, block):
        first = self._first[block]
        middle = first + self._waiting[block]
        groups = {}
        for node in self._row[first:middle]:
            groups.setdefault(self._shape(node), []).append(node)
        self._waiting[block] = 0
        parts = []
        at = first
        for nodes in groups.values():
            self._put(nodes, at)
            parts.append((at, at + len(nodes)))
            at = at + len(nodes)
        # Nodes that did not wait are alike, and unlike all that did: no child of theirs has moved.
        if middle < self._behind[block]:
            parts.append((middle, self._behind[block]))
        self._number(block, parts)

    def _shape(self, node):
        """The color of a node and the blocks of its children."""
        color, *children = self._net[node]
        return (color,) + tuple([None if child is None else self._block[child] for child in children])

    def _put(self, nodes, at):
        for step, node in enumerate(nodes):
            self._row[at + step] = node
            self._at[node] = at + step

    def _number(self, block, parts):
        """Makes blocks of the parts of a block; the nodes with a child in a new block wait from now on."""
        sizes = [behind - first for first, behind in parts]
        largest = sizes.index(max(sizes))
        moved = []
        for at, (first, behind) in enumerate(parts):
            if at == largest:
                self._first[block] = first
                self._behind[block] = behind
            else:
                moved.extend(self._new_block(first, behind))
        for node in moved:
            for parent in self._parents[node]:
                self._let_wait(parent)

    def _new_block(self, first, behind):
        for node in self._row[first:behind]:
            self._block[node] = len(self._first)
        self._first.append(first)
        self._behind.append(behind)
        self._waiting.append(0)
        return self._row[first:behind]

    def _let_wait(self, node):
        block = self._block[node]
        at = self._first[block] + self._waiting[block]
        if self._at[node] < at:
            return
        if self._waiting[block] == 0:
            self._queue.append(block)
        other = self._row[at]
        self._put([other], self._at[node])
        self._put([node], at)
        self._waiting[block] += 1
