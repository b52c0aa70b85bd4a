"""Runs: pairs of a string and a number of letters, which are taken from the string repeated without end."""

MOST_POWER = 10 ** 30


def runs_of(far):
    """The list of the runs of a far word."""
    return [(word, len(word) * power) for word, power in far]


def run_behind(run, many):
    """The run that is left of a longer one behind so many letters."""
    word, length = run
    turn = many % len(word)
    return (word[turn:] + word[:turn], length - many)


def first_letters(word, many):
    """The first so many letters of a string repeated without end."""
    return (word * (many // len(word) + 1))[:many]


def compare_runs(one, other):
    """-1, 0 or 1, if what two runs have in their common length is below in the first one, equal or above."""
    # Two repeated strings that agree on as many letters as both have together agree without end.
    many = min(one[1], other[1], len(one[0]) + len(other[0]))
    left = first_letters(one[0], many)
    right = first_letters(other[0], many)
    if left == right:
        return 0
    return -1 if left < right else 1


def tidied(pairs):
    """The far word of some pairs, in which strings may be empty and powers 0 or beyond the greatest one.

    A pair that continues the run ahead of it is joined to it; otherwise a word to which many steps
    lead, one call after the other, would come to have ever more pairs.
    """
    runs = []
    for word, length in [run for run in runs_of(pairs) if run[1] > 0]:
        if runs and _continues(runs[-1], (word, length)):
            runs[-1] = (runs[-1][0], runs[-1][1] + length)
        else:
            runs.append((word, length))
    return tuple([pair for run in runs for pair in _pairs_of(run)])


def _continues(run, other):
    """Whether what stands behind a run is what the run would have there if it were longer."""
    word, length = run
    longer = (word, length + other[1])
    return compare_runs(run_behind(longer, length), other) == 0


def _pairs_of(run):
    word, length = run
    power, rest = divmod(length, len(word))
    pairs = []
    while power > 0:
        pairs.append((word, min(power, MOST_POWER)))
        power = power - MOST_POWER
    if rest > 0:
        pairs.append((word[:rest], 1))
    return pairs
