"""Formulas that tell two lines apart."""

from lexiconlines.plain import as_term
from lexiconlines.profiles import check_depth
from lexiconlines.profiletables import ProfileTable


def least_depth(one, other, *, depth=3):
    """The least depth, up to a given one, at which the profiles of two lines are unlike, or None."""
    check_depth(depth, 0)
    return least_unlike(ProfileTable(), (as_term(one), as_term(other)), depth)


def telling_formula(one, other, *, depth=3):
    """A formula of the least depth that the first one of two lines satisfies alone, or None."""
    check_depth(depth, 0)
    table = ProfileTable()
    terms = (as_term(one), as_term(other))
    least = least_unlike(table, terms, depth)
    if least is None:
        return None
    return _telling(table, table.of_term(terms[0], least), table.of_term(terms[1], least))


def least_unlike(table, terms, depth):
    """The least depth, up to a given one, at which the profiles of two terms are unlike, or None."""
    for least in range(1, depth + 1):
        if table.of_term(terms[0], least) != table.of_term(terms[1], least):
            return least
    return None


def _telling(table, one, other):
    """A formula that lines with the first one of two unlike profiles satisfy, and those with the second one do not."""
    rows = (table.row(one), table.row(other))
    for triple in rows[0]:
        if triple not in rows[1]:
            return _some(table, triple, rows[1])
    missing = [triple for triple in rows[1] if triple not in rows[0]]
    return ("not", _some(table, missing[0], rows[0]))


def _some(table, triple, others):
    """A formula of a spot that has a triple, and none of some other triples."""
    color, low, high = triple
    rivals = [rival for rival in others if rival[0] == color]
    lows = {rival[1]: True for rival in rivals if rival[1] != low}
    highs = {rival[2]: True for rival in rivals if rival[1] == low}
    below = [_telling(table, low, rival) for rival in lows]
    above = [_telling(table, high, rival) for rival in highs]
    return ("some", color, _all_of(below), _all_of(above))


def _all_of(formulas):
    """A formula that is satisfied if all of a list are."""
    different = []
    for formula in formulas:
        if formula not in different:
            different.append(formula)
    if len(different) < 2:
        return different[0] if different else ("true",)
    return ("and", *different)
