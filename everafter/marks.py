"""Marks: what stands at a place, or at a moment of a run."""

LONGEST = 6


def is_mark(thing):
    """Tell whether thing, which may be anything, is a mark."""
    if type(thing) is not str or len(thing) > LONGEST:
        return False
    return all(["a" <= letter <= "z" for letter in thing])
