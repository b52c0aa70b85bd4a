"""Far words: strings of letters written as powers of strings."""

from lexiconlines.errors import InvalidFar, TooMany
from lexiconlines.rounds import pair_starts
from lexiconlines.runs import MOST_POWER, compare_runs, run_behind, runs_of
from lexiconlines.values import is_number_in
from lexiconlines.words import is_letters

_MOST_LETTERS = 4000


def is_far(value):
    """Whether any value is a far word, of any number of pairs."""
    return isinstance(value, tuple) and all([_is_pair(pair) for pair in value])


def far_length(far):
    """The number of the letters of a far word."""
    check_far(far)
    return sum([len(word) * power for word, power in far])


def far_letter(far, at):
    """The letter with an index, or the empty string beyond the end."""
    check_far(far)
    for word, power in far:
        if at < len(word) * power:
            return word[at % len(word)]
        at = at - len(word) * power
    return ""


def compare(one, other):
    """-1, 0 or 1, if the string of one far word is below that of the other, equal or above."""
    check_far(one)
    check_far(other)
    left, right = runs_of(one)[::-1], runs_of(other)[::-1]
    while left and right:
        ahead, behind = left.pop(), right.pop()
        order = compare_runs(ahead, behind)
        if order != 0:
            return order
        many = min(ahead[1], behind[1])
        if ahead[1] > many:
            left.append(run_behind(ahead, many))
        if behind[1] > many:
            right.append(run_behind(behind, many))
    return (1 if left else 0) - (1 if right else 0)


def plain(far):
    """The string of a far word of at most 4000 letters."""
    count = far_length(far)
    if count > _MOST_LETTERS:
        raise TooMany(count)
    return "".join([word * power for word, power in far])


def far_color(book, far):
    """The color of a far word in a book, or the empty string."""
    check_far(far)
    net = book.nodes()
    starts = pair_starts(net, far)
    return "" if starts is None else net[starts[-1]][0]


def check_far(value):
    """Raises InvalidFar for any value that is no far word."""
    if not is_far(value):
        raise InvalidFar()


def _is_pair(value):
    if not isinstance(value, tuple) or len(value) != 2:
        return False
    return is_letters(value[0]) and value[0] != "" and is_number_in(value[1], 1, MOST_POWER)
