"""Many steps at once along the words of a net, in one direction."""

from lexiconlines.choices import child_by, choices, choices_behind
from lexiconlines.nets import trail, word_counts
from lexiconlines.rounds import after_rounds, pair_starts, rounds


class Stairs:
    """The words of a net in one direction.

    `steps` is always the number, counted from 1, that the word looked for has among all words
    that lie ahead. A part with infinitely many words is never left again: either the word looked
    for lies in it, or the block ends in it. Strings are told as lists of pairs (string, power), in
    which a string may be empty and a power 0.
    """

    def __init__(self, net, up):
        self._net = net
        self._up = up
        self._counts = word_counts(net)

    def steps_from(self, far, steps):
        """The pairs of the word so many steps from a word, and 0; or None and how many steps are too many."""
        starts = pair_starts(self._net, far)
        choice, steps = self._seek(starts[-1], choices_behind("", self._up), steps)
        if choice is not None:
            return self._entered(list(far), starts[-1], choice, steps)
        for at in range(len(far) - 1, -1, -1):
            word, power = far[at]
            nodes, back = rounds(self._net, starts[at], word, power)
            copy, place, choice, steps = self._cross(nodes, back, far[at], steps)
            if choice is not None:
                ahead = list(far[:at]) + [(word, copy), (word[:place], 1)]
                node = trail(self._net, after_rounds(nodes, back, copy), word[:place])[-1]
                return self._entered(ahead, node, choice, steps)
        return None, steps

    def _cross(self, nodes, back, pair, steps):
        """Goes back over the copies of a pair; nodes and back are those of its rounds.

        Returns the copy and the place in it at which the word looked for branches off, the choice
        there, and the steps left. The choice is None if the word looked for lies further back.
        """
        word, copy = pair
        size = 0 if back is None else len(nodes) - back
        before = steps
        crossed = 0
        while copy > 0:
            copy -= 1
            crossed += 1
            place, choice, steps = self._cross_copy(after_rounds(nodes, back, copy), word, steps)
            if choice is not None:
                return copy, place, choice, steps
            if crossed == size:
                # Each full turn of the ring passes as many words as this first one: at least one,
                # since where the word leaves the ring it leaves it on the side that was passed.
                passed = before - steps
                turns = min((copy - back) // size, (steps - 1) // passed)
                copy = copy - turns * size
                steps = steps - turns * passed
        return 0, 0, None, steps

    def _cross_copy(self, node, word, steps):
        nodes = trail(self._net, node, word)
        for place in range(len(word) - 1, -1, -1):
            choice, steps = self._seek(nodes[place], choices_behind(word[place], self._up), steps)
            if choice is not None:
                return place, choice, steps
        return 0, None, steps

    def _entered(self, ahead, node, choice, steps):
        """Pairs that lead to a node, and behind them those of the word looked for in a choice; as steps_from."""
        if choice == "":
            return ahead, 0
        pairs, steps = self._found(choice, child_by(self._net[node], choice), steps)
        return (None, steps) if pairs is None else (ahead + pairs, 0)

    def _found(self, word, node, steps):
        """The pairs of a string and of the word looked for among those of the node to which it leads; as steps_from."""
        seen = {}
        while node not in seen:
            seen[node] = (len(word), steps)
            choice, steps = self._seek(node, choices(self._up), steps)
            if choice == "":
                return [(word, 1)], 0
            word = word + choice
            node = child_by(self._net[node], choice)
        place, before = seen[node]
        passed = before - steps
        if passed == 0:
            return None, steps
        turns = (steps - 1) // passed
        # The word looked for lies in the turn behind these, so this goes only one call deeper.
        pairs, _ = self._found("", node, steps - turns * passed)
        return [(word[:place], 1), (word[place:], turns + 1)] + pairs, 0

    def _seek(self, node, order, steps):
        """The first of some choices at a node in which the word looked for lies, or None, and the steps left."""
        for choice in order:
            many = self._amount(node, choice)
            if many is None or many >= steps:
                return choice, steps
            steps = steps - many
        return None, steps

    def _amount(self, node, choice):
        """The number of words of a choice, or None if there are infinitely many."""
        if choice == "":
            return 0 if self._net[node][0] == "" else 1
        child = child_by(self._net[node], choice)
        return 0 if child is None else self._counts[child]
