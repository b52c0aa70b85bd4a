"""The second folding: each greatest even set becomes a single spot."""

from lexiconlines.evensets import EvenFolder


def second_folding(term):
    """The second folding of a term."""
    return EvenFolder().folded(term)
