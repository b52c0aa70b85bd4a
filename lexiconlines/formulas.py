"""Formulas: their form, their depth and their texts."""

from lexiconlines.errors import InvalidFormula
from lexiconlines.formulatexts import FormulaReader
from lexiconlines.words import is_color

_MOST_NESTING = 20


def is_formula(value):
    """Whether any value is a formula that nests at most 20 deep."""
    return _is_formula(value, _MOST_NESTING)


def depth_of(formula):
    """The depth of a formula."""
    inner = max([depth_of(part) for part in parts_of(formula)], default=0)
    return inner + 1 if formula[0] == "some" else inner


def formula_text(formula):
    """The text of a formula."""
    word = formula[0]
    texts = [formula_text(part) for part in parts_of(formula)]
    if word == "some":
        return "some " + formula[1] + " [" + texts[0] + " | " + texts[1] + "]"
    if word == "not":
        return "not " + texts[0]
    return "(" + (" " + word + " ").join(texts) + ")" if texts else word


def read_formula(text):
    """The formula with a text."""
    if not isinstance(text, str):
        raise InvalidFormula(0)
    return FormulaReader(text).whole(_MOST_NESTING)


def parts_of(formula):
    """The tuple of the formulas of which a formula is made."""
    return formula[2:] if formula[0] == "some" else formula[1:]


def _is_formula(value, room):
    """Whether any value is a formula that nests at most so deep."""
    if not isinstance(value, tuple) or len(value) == 0 or not isinstance(value[0], str):
        return False
    word = value[0]
    if word in ("true", "false"):
        return len(value) == 1
    if word == "some":
        has_form = len(value) == 4 and is_color(value[1])
    elif word == "not":
        has_form = len(value) == 2
    else:
        has_form = word in ("and", "or") and len(value) >= 3
    return has_form and room > 0 and all([_is_formula(part, room - 1) for part in parts_of(value)])
