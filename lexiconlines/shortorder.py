"""The words of a net in short order."""

from lexiconlines.nets import word_counts, word_lengths
from lexiconlines.nodes import PLACES

# How many strings of one length are kept to be made longer; where there are more of them, each
# word is sought from the start of the net, since few of the strings may begin a word of the next lengths.
_WIDEST = 20000


def net_words(net, most):
    """Yields the first words of a net in short order, at most so many."""
    total = word_counts(net)[0]
    left = most if total is None else min(most, total)
    lengths = word_lengths(net)
    # The strings of one length that begin words, each behind the node to which it leads.
    front = [(0, "")]
    length = 0
    while left > 0 and len(front) <= _WIDEST:
        words = [word for node, word in front if net[node][0] != ""]
        for word in words[:left]:
            yield word
        left -= min(left, len(words))
        pairs = [pair for node, word in front for pair in longer(net, node, word)[::-1]]
        front = [pair for pair in pairs if lengths[pair[0]] is not None]
        length += 1
    if left > 0:
        yield from _sought_words(net, length, left)


def longer(net, node, word):
    """The pairs of a child of a node and its string, which is one letter longer; the last letter first."""
    pairs = [(net[node][place], word + letter) for letter, place in PLACES.items()]
    return [pair for pair in pairs[::-1] if pair[0] is not None]


def _sought_words(net, length, left):
    """Yields so many words of a net in short order, from a length on; there are that many."""
    # For each number of letters: which nodes have a word with just so many letters.
    tables = [[node[0] != "" for node in net]]
    while left > 0:
        while len(tables) <= length:
            tables.append(_one_longer(net, tables[-1]))
        stack = [(0, "")] if tables[length][0] else []
        while stack and left > 0:
            node, word = stack.pop()
            if len(word) == length:
                yield word
                left -= 1
            else:
                table = tables[length - len(word) - 1]
                stack.extend([pair for pair in longer(net, node, word) if table[pair[0]]])
        length += 1


def _one_longer(net, table):
    """Which nodes have a child in a table."""
    return [any([child is not None and table[child] for child in node[1:]]) for node in net]
