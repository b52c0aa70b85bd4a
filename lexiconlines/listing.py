"""The words of a book: listed and counted."""

from lexiconlines.nets import shortest_word, word_counts, word_lengths
from lexiconlines.shortorder import longer, net_words


def by_length(book, most=20):
    """Yields the first words of a book in short order, at most so many."""
    net = book.nodes()
    yield from net_words(net, most)


def words_upto(book, length):
    """The list of the words of at most so many letters, in dictionary order."""
    net = book.nodes()
    lengths = word_lengths(net)
    words = []
    stack = [(0, "")] if _fits(lengths[0], length) else []
    while stack:
        node, word = stack.pop()
        if net[node][0] != "":
            words.append(word)
        room = length - len(word) - 1
        stack.extend([pair for pair in longer(net, node, word) if _fits(lengths[pair[0]], room)])
    return words


def count_of_length(book, length):
    """The number of the words with just so many letters."""
    net = book.nodes()
    lengths = word_lengths(net)
    if length < 0:
        return 0
    ways = {0: 1}
    for _ in range(length):
        ways = _ways_onward(net, lengths, ways)
        if not ways:
            return 0
    return sum([ways[node] for node in ways if net[node][0] != ""])


def count_words(book):
    """The number of all words, or None if there are infinitely many."""
    return word_counts(book.nodes())[0]


def is_finite(book):
    """Whether a book has finitely many words."""
    return count_words(book) is not None


def shortest(book):
    """The first word in short order, or None."""
    net = book.nodes()
    lengths = word_lengths(net)
    return None if lengths[0] is None else shortest_word(net, lengths, 0)


def _fits(shortest_length, room):
    return shortest_length is not None and shortest_length <= room


def _ways_onward(net, lengths, ways):
    """How many strings lead to each node that has words, one letter on."""
    onward = {}
    for node in ways:
        for child in net[node][1:]:
            if child is not None and lengths[child] is not None:
                onward[child] = onward.get(child, 0) + ways[node]
    return onward
