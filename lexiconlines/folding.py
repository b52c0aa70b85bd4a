"""The first folding: each block becomes a single spot."""

from lexiconlines.blocks import BlockFolder


def first_folding(term):
    """The first folding of a term."""
    return BlockFolder().folded(term)
