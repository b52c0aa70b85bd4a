"""Profiles: what formulas of small depth tell of a line."""

from lexiconlines.errors import InvalidColor, InvalidFormula, TooDeep
from lexiconlines.formulas import depth_of, is_formula
from lexiconlines.plain import as_term
from lexiconlines.profiletables import ProfileTable
from lexiconlines.values import is_number_in
from lexiconlines.words import is_color

MOST_DEPTH = 3


def profile_of(line, depth):
    """The profile of a depth of the line of a book or a term."""
    check_depth(depth, 0)
    table = ProfileTable()
    return table.profile(table.of_term(as_term(line), depth))


def spot_profile(color, depth):
    """The profile of a single spot."""
    if not is_color(color):
        raise InvalidColor(color)
    check_depth(depth, 0)
    table = ProfileTable()
    return table.profile(table.of_spot(color, depth))


def sum_profile(one, other, depth):
    """The profile of a sum, from the profiles of its parts."""
    check_depth(depth, 0)
    table = ProfileTable()
    return table.profile(table.of_sum(table.numbered(one), table.numbered(other), depth))


def up_profile(one, depth):
    """The profile of up, from that of what is repeated."""
    check_depth(depth, 0)
    table = ProfileTable()
    return table.profile(table.of_up(table.numbered(one), depth))


def down_profile(one, depth):
    """The profile of down, from that of what is repeated."""
    check_depth(depth, 0)
    table = ProfileTable()
    return table.profile(table.of_down(table.numbered(one), depth))


def shuffle_profile(pieces, depth):
    """The profile of a shuffle, from a list of the profiles of its pieces."""
    check_depth(depth, 0)
    table = ProfileTable()
    return table.profile(table.of_shuffle([table.numbered(piece) for piece in pieces], depth))


def lowered(one, depth):
    """The profile of the depth less 1 of a line, from its profile of a depth."""
    check_depth(depth, 1)
    table = ProfileTable()
    return table.profile(table.lowered(table.numbered(one), depth))


def satisfies(profile, depth, formula):
    """Whether the lines with a profile of a depth satisfy a formula of at most this depth."""
    check_depth(depth, 0)
    return _satisfies(profile, formula)


def holds(line, formula):
    """Whether the line of a book or a term satisfies a formula."""
    if not is_formula(formula):
        raise InvalidFormula(-1)
    depth = depth_of(formula)
    check_depth(depth, 0)
    return _satisfies(profile_of(line, depth), formula)


def check_depth(value, least):
    """Raises TooDeep for any value that is no number from a least depth to 3."""
    if not is_number_in(value, least, MOST_DEPTH):
        raise TooDeep(value)


def _satisfies(profile, formula):
    word = formula[0]
    if word == "some":
        return _has_spot(profile, formula)
    if word == "not":
        return not _satisfies(profile, formula[1])
    if word in ("and", "or"):
        # One part that is not satisfied settles and; one that is settles or.
        settles = word == "or"
        for part in formula[1:]:
            if _satisfies(profile, part) == settles:
                return settles
        return not settles
    return word == "true"


def _has_spot(profile, formula):
    """Whether some triple of a profile satisfies what a formula tells of a spot."""
    _, wanted, below, above = formula
    for color, low, high in profile:
        if color == wanted and _satisfies(low, below) and _satisfies(high, above):
            return True
    return False
