"""What all lines with some colors have in common, and lines that satisfy formulas."""

from lexiconlines.closures import AllProfiles
from lexiconlines.errors import InvalidFormula, InvalidNumber, TooDeep
from lexiconlines.formulas import depth_of, is_formula
from lexiconlines.profiles import satisfies
from lexiconlines.values import is_number_in
from lexiconlines.words import COLORS

# The greatest depth within reach for each number of colors.
_MOST_DEPTH = (0, 3, 2, 1)


def all_profiles(colors, depth):
    """The ascending list of the profiles of a depth of all lines with so many colors."""
    _check(colors, depth)
    found = AllProfiles(colors, depth)
    return sorted([found.table.profile(number) for number in found.by_number()])


def term_with(profile, colors, depth):
    """A term of so many colors that has a profile of a depth, or None for any value that no line has."""
    _check(colors, depth)
    found = AllProfiles(colors, depth)
    for number, term in found.by_number().items():
        if found.table.profile(number) == profile:
            return term
    return None


def is_shut(profiles, colors, depth):
    """Whether a list of profiles has all that follows from its members, from no spots and from single spots."""
    _check(colors, depth)
    found = AllProfiles(colors, depth)
    # All lines with these colors have the profiles that are found, so a list of some of them that
    # is shut has just these.
    return sorted(set([found.table.numbered(profile) for profile in profiles])) == sorted(found.by_number())


def model(formulas, *, colors=1):
    """A term of so many colors that satisfies all formulas of a list, or None if no line does."""
    return _term_that(formulas, [], colors)


def follows(formulas, formula, *, colors=1):
    """None if all lines that satisfy the formulas of a list satisfy the last one; otherwise a term that does not."""
    return _term_that(formulas, [formula], colors)


def _check(colors, depth):
    _check_colors(colors)
    if not is_number_in(depth, 0, _MOST_DEPTH[colors]):
        raise TooDeep(depth)


def _check_colors(colors):
    if not is_number_in(colors, 1, len(COLORS)):
        raise InvalidNumber(colors)


def _term_that(formulas, others, colors):
    """A term of so many colors that satisfies some formulas and none of some other ones, or None."""
    _check_colors(colors)
    together = [*formulas, *others]
    for at, formula in enumerate(together):
        if not is_formula(formula):
            raise InvalidFormula(at)
    depth = max([depth_of(formula) for formula in together], default=0)
    _check(colors, depth)
    found = AllProfiles(colors, depth)
    for number, term in found.by_number().items():
        if _fits(found.table.profile(number), depth, formulas, others):
            return term
    return None


def _fits(profile, depth, formulas, others):
    """Whether the lines with a profile satisfy some formulas and none of some other ones."""
    for formula in formulas:
        if not satisfies(profile, depth, formula):
            return False
    for formula in others:
        if satisfies(profile, depth, formula):
            return False
    return True
