"""The first folding: how the blocks of a term become single spots.

A folded term is told as a list of *entries*: rows (tuples) for the blocks that hold its first and
its last spot, if there are such spots, and between them at most one Term for all other blocks. If
the whole line is one block, its row is the only entry.
"""

from lexiconlines.bounds import bounded, bounded_sum
from lexiconlines.rowforms import row_sign
from lexiconlines.terms import parts_first, shuffle_of, single, sum_of


class BlockFolder:
    """First foldings of terms; what was folded once is kept.

    No folding of a part is greater than that of the whole, so TooMany may be raised on the way.
    """

    def __init__(self):
        self._known = {}

    def folded(self, term):
        """The first folding of a term."""
        return as_sum(self.entries(term))

    def entries(self, term):
        """The entries of the first folding of a term."""
        missing = parts_first(term, self._known)
        for one in missing:
            self._known[one.text()] = self._made(one)
        return list(self._known[term.text()])

    def _made(self, term):
        parts = [self._known[part.text()] for part in term.parts]
        if term.kind == "sign":
            return [((), (term.sign,), ())]
        if term.kind == "up":
            return _up(parts[0])
        if term.kind == "down":
            return _down(parts[0])
        if term.kind == "shuffle":
            return [bounded(shuffle_of([as_sum(part) for part in parts]))]
        return settled(joined_entries(parts))


def is_block(entry):
    """Whether an entry is the row of a block."""
    return isinstance(entry, tuple)


def as_sum(entries):
    """The term of some entries, in which each row is the sign with its text."""
    return bounded_sum([single(row_sign(entry)) if is_block(entry) else entry for entry in entries])


def joined_entries(lists):
    """The entries of some lists, one behind the other, with blocks that meet joined."""
    joined = []
    for entries in lists:
        for entry in entries:
            if joined and _meet(joined[-1], entry):
                joined[-1] = _join(joined[-1], entry)
            else:
                joined.append(entry)
    return joined


def settled(entries):
    """Entries in which only the blocks that hold the first and the last spot are rows, or the one block is."""
    if not entries or (len(entries) == 1 and is_block(entries[0])):
        return entries
    first = entries[:1] if is_block(entries[0]) and not entries[0][0] else []
    last = entries[-1:] if is_block(entries[-1]) and not entries[-1][2] else []
    middle = as_sum(entries[len(first):len(entries) - len(last)])
    return first + ([] if middle.is_empty else [middle]) + last


def _meet(one, other):
    return is_block(one) and is_block(other) and not one[2] and not other[0]


def _join(one, other):
    return (one[0], one[1] + other[1], other[2])


def _ends(entries):
    """The block of the first spot, the term between and the block of the last spot, each in a list, if it is there."""
    first = entries[:1] if is_block(entries[0]) else []
    last = entries[-1:] if len(entries) > 1 and is_block(entries[-1]) else []
    return first, sum_of(entries[len(first):len(entries) - len(last)]), last


def _up(entries):
    """The entries of up of a term, from those of the term; its last block meets the first one of the next copy."""
    if len(entries) == 1 and is_block(entries[0]):
        left, middle, right = entries[0]
        if not left and not right:
            return [((), (), middle)]
        return ([] if left else entries) + [single(row_sign(entries[0])).up()]
    first, middle, last = _ends(entries)
    met = joined_entries([last, first])
    if not met:
        return [middle.up()]
    return first + [bounded_sum([middle, as_sum(met + [middle]).up()])]


def _down(entries):
    """The mirror of _up."""
    if len(entries) == 1 and is_block(entries[0]):
        left, middle, right = entries[0]
        if not left and not right:
            return [(middle, (), ())]
        return [single(row_sign(entries[0])).down()] + ([] if right else entries)
    first, middle, last = _ends(entries)
    met = joined_entries([last, first])
    if not met:
        return [middle.down()]
    return [bounded_sum([as_sum([middle] + met).down(), middle])] + last
