"""The two foldings once more, step by step in the words of the document, for small terms."""

from lexiconlines.rows import even_sign, joined_rows, row_text
from lexiconlines.terms import Term, sign_term
from tests.support import total

NO = ()


def told_first(term):
    """The first folding of a term."""
    return Term.empty() if term.is_empty else whole(blocks(term))


def whole(folded):
    if folded[0] == "row":
        return sign_term(row_text(folded[1]))
    _, left, middle, right = folded
    return total(*[sign_term(row_text(row)) for row in left], middle, *[sign_term(row_text(row)) for row in right])


def blocks(term):
    """Either ("row", row), or ("triple", L, M, R) with L and R as lists of one row or none."""
    parts = [blocks(part) for part in term.parts]
    if term.kind == "sign":
        return ("row", (NO, (term.sign,), NO))
    if term.kind == "sum":
        folded = parts[0]
        for part in parts[1:]:
            folded = put_together(listed(folded), listed(part))
        return folded
    if term.kind == "shuffle":
        return ("triple", [], Term.shuffle(*map(whole, parts)), [])
    return up_of(parts[0]) if term.kind == "up" else down_of(parts[0])


def listed(folded):
    """The neighbor as a list of pairs: a row and None, or None and a term."""
    if folded[0] == "row":
        return [(folded[1], None)]
    _, left, middle, right = folded
    return [(row, None) for row in left] + ([] if middle.is_empty else [(None, middle)]) + [(row, None) for row in right]


def put_together(one, other):
    last, first = one[-1][0], other[0][0]
    if last is not None and first is not None and not last[2] and not first[0]:
        one, other = one[:-1] + [(joined_rows(last, first), None)], other[1:]
    entries = one + other
    if len(entries) == 1 and entries[0][0] is not None:
        return ("row", entries[0][0])
    left = [row for row, _ in entries[:1] if row is not None and not row[0]]
    right = [row for row, _ in entries[-1:] if row is not None and not row[2]]
    others = entries[len(left):len(entries) - len(right)]
    return ("triple", left, total(*[term if row is None else sign_term(row_text(row)) for row, term in others]), right)


def met(left, right):
    """J as a list of one term or none."""
    if left and right:
        return [sign_term(row_text(joined_rows(right[0], left[0])))]
    return [sign_term(row_text(row)) for row in left + right]


def up_of(folded):
    if folded[0] == "row":
        row = folded[1]
        if not row[0] and not row[2]:
            return ("row", (NO, NO, row[1]))
        return ("triple", [] if row[0] else [row], sign_term(row_text(row)).up(), [])
    _, left, middle, right = folded
    between = met(left, right)
    if not between:
        return ("triple", [], middle.up(), [])
    return ("triple", left, middle + (between[0] + middle).up(), [])


def down_of(folded):
    if folded[0] == "row":
        row = folded[1]
        if not row[0] and not row[2]:
            return ("row", (row[1], NO, NO))
        return ("triple", [], sign_term(row_text(row)).down(), [] if row[2] else [row])
    _, left, middle, right = folded
    between = met(left, right)
    if not between:
        return ("triple", [], middle.down(), [])
    return ("triple", [], (middle + between[0]).down() + middle, right)


class Even:
    """An even sign of this folding."""

    def __init__(self, signs):
        self.signs = set(signs)
        self.term = sign_term(even_sign(sorted(self.signs)))

    def __eq__(self, other):
        return isinstance(other, Even) and self.signs == other.signs

    def holds(self, entry):
        return isinstance(entry, Term) and entry.kind == "sign" and entry.sign in self.signs


def told_second(term):
    """The second folding of a term."""
    return sum_of(evens(term))


def sum_of(entries):
    return total(*[entry.term if isinstance(entry, Even) else entry for entry in entries])


def evens(term):
    """The list of entries: terms, and objects of Even."""
    parts = [evens(part) for part in term.parts]
    if term.kind == "empty":
        return []
    if term.kind == "sign":
        return [term]
    if term.kind == "sum":
        return reduced([entry for part in parts for entry in part])
    if term.kind == "shuffle":
        return shuffle_of(parts)
    return up_list(parts[0]) if term.kind == "up" else down_list(parts[0])


def reduced(entries):
    for at, entry in enumerate(entries):
        if isinstance(entry, Even):
            if entries[at + 1:at + 2] == [entry]:
                return reduced(entries[:at] + entries[at + 1:])
            if entries[at + 2:at + 3] == [entry] and entry.holds(entries[at + 1]):
                return reduced(entries[:at] + entries[at + 2:])
    return entries


def is_even(entries):
    return len(entries) == 1 and isinstance(entries[0], Even)


def is_even_held(entries):
    """Whether it is U p with a held p."""
    return len(entries) == 2 and isinstance(entries[0], Even) and entries[0].holds(entries[1])


def is_held_even(entries):
    """Whether it is p U with a held p."""
    return is_even_held(entries[::-1])


def cut(r):
    """The beginning, the middle and the end in the three cases, or None."""
    if is_even(r[-1:]) and is_even(r[:1]) and r[-1] == r[0]:
        return r[:1], r[1:-1], r[-1:], r[:1]
    if is_even(r[-1:]) and is_held_even(r[:2]) and r[-1] == r[1]:
        return r[:2], r[2:-1], r[-1:], r[1:2]
    if is_even_held(r[-2:]) and is_even(r[:1]) and r[-2] == r[0]:
        return r[:1], r[1:-2], r[-2:], r[:1]
    return None


def up_list(r):
    if is_even(r) or is_even_held(r):
        return r[:1]
    if is_held_even(r):
        return r
    found = cut(r)
    if found:
        beginning, middle, _, even = found
        return beginning + middle + [sum_of(even + middle).up()]
    if is_even(r[:1]) or is_held_even(r[:2]):
        return r + [sum_of(r).up()]
    return [sum_of(r).up()]


def down_list(r):
    if is_even(r) or is_held_even(r):
        return r[-1:]
    if is_even_held(r):
        return r
    found = cut(r)
    if found:
        _, middle, end, even = found
        return [sum_of(middle + even).down()] + middle + end
    if is_even(r[-1:]) or is_even_held(r[-2:]):
        return [sum_of(r).down()] + r
    return [sum_of(r).down()]


def shuffle_of(parts):
    forms = ["".join("U" if isinstance(entry, Even) else "p" if entry.kind == "sign" else "?" for entry in part) for part in parts]
    if all(form in ("p", "U", "pU", "Up", "pUp") for form in forms):
        found = [entry for part in parts for entry in part if isinstance(entry, Even)]
        olds = [entry for part in parts for entry in part if not isinstance(entry, Even)]
        if not found:
            return [Even([entry.sign for entry in olds])]
        if all(entry == found[0] for entry in found) and all(found[0].holds(entry) for entry in olds):
            return [found[0]]
    return [Term.shuffle(*map(sum_of, parts))]
