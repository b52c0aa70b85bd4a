"""The levels of the ladder of a term."""

from lexiconlines.blocks import BlockFolder
from lexiconlines.evensets import EvenFolder


def ladder_terms(term):
    """The list of the terms of all levels of a ladder, from a term at level 0 to the end."""
    blocks = BlockFolder()
    evens = EvenFolder()
    terms = [term]
    while not has_one_spot(terms[-1]):
        if len(terms) % 2 == 1:
            terms.append(blocks.folded(terms[-1]))
        else:
            terms.append(evens.folded(terms[-1]))
    return terms


def has_one_spot(term):
    """Whether the line of a term has one spot, or none at all."""
    return term.is_empty or term.kind == "sign"
