"""Segments of orbits: where two of them first share a number."""

from affinewalk.orbits import approach


def first_overlap(m, f, starts, n):
    """Return the first overlap (i, j, k) of the segments of length n from the starts, or None if there is none."""
    for j, later in enumerate(starts):
        for i in range(j):
            k = first_shared(m, f, starts[i], later, n)
            if k is not None:
                return (i, j, k)
    return None


def first_shared(m, f, x, y, n):
    """Return the index of the first number of the segment from y that is in the one from x, or None."""
    d, around, ahead = approach(m, f, x, y)
    if d != m:
        return None
    # Either y stands in the segment from x itself, or the segment from y has to come around to x.
    k = 0 if ahead < n else around - ahead
    return k if k < n else None
