"""What formulas of small depth tell of lines of terms: by it unlike lines are told apart without any folding."""

import functools


@functools.lru_cache(maxsize=None)
def lowered(profile, depth):
    """The profile of the depth less 1."""
    if depth <= 1:
        return ()
    return tuple(sorted({(color, lowered(below, depth - 1), lowered(above, depth - 1)) for color, below, above in profile}))


@functools.lru_cache(maxsize=None)
def sum_profile(one, other, depth):
    if depth == 0:
        return ()
    ahead, behind = lowered(one, depth), lowered(other, depth)
    triples = {(color, below, sum_profile(above, behind, depth - 1)) for color, below, above in one}
    triples |= {(color, sum_profile(ahead, below, depth - 1), above) for color, below, above in other}
    return tuple(sorted(triples))


@functools.lru_cache(maxsize=None)
def repeated_profile(one, depth, down):
    """The profile of up, or of down."""
    if depth == 0 or one == ():
        return ()
    part = lowered(one, depth)
    endless = repeated_profile(part, depth - 1, down)
    copies, triples = (), set()
    for _ in range(2 ** depth + 1):
        for color, below, above in one:
            if down:
                triples.add((color, sum_profile(endless, below, depth - 1), sum_profile(above, copies, depth - 1)))
            else:
                triples.add((color, sum_profile(copies, below, depth - 1), sum_profile(above, endless, depth - 1)))
        copies = sum_profile(copies, part, depth - 1)
    return tuple(sorted(triples))


@functools.lru_cache(maxsize=None)
def shuffle_profile(pieces, depth):
    if depth == 0 or not any(pieces):
        return ()
    even = shuffle_profile(tuple(sorted({lowered(piece, depth) for piece in pieces})), depth - 1)
    return tuple(sorted({(color, sum_profile(even, below, depth - 1), sum_profile(above, even, depth - 1))
                         for piece in pieces for color, below, above in piece}))


def profile(term, depth):
    """The profile of a depth of the line of a term of colors."""
    if term.kind == "empty" or depth == 0:
        return ()
    if term.kind == "sign":
        return ((term.sign, (), ()),)
    parts = [profile(part, depth) for part in term.parts]
    if term.kind == "sum":
        return functools.reduce(lambda one, other: sum_profile(one, other, depth), parts)
    if term.kind == "shuffle":
        return shuffle_profile(tuple(sorted(set(parts))), depth)
    return repeated_profile(parts[0], depth, term.kind == "down")
