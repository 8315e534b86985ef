"""Sayings, and the bonds that stand in them."""

from everafter.errors import BadSaying, TooMany
from everafter.marks import is_mark

DEEPEST = 5
MOST_BONDS = 4

# How many sayings stand behind each word; "mark" is not here, for what stands behind it is no saying.
PARTS = {"yes": 0, "not": 1, "and": 2, "or": 2, "next": 1, "till": 2, "always": 1, "again": 1}


def is_saying(thing):
    """Tell whether thing, which may be anything, is a saying."""
    return _is_saying_within(thing, DEEPEST)


def bonds_in(saying):
    """Return the row of the bonds of a saying, each behind those that stand in it."""
    row = []
    _add_bonds(saying, row)
    return row


def need_saying(thing):
    """Return thing if it is a saying that can be judged, and refuse it otherwise."""
    if not is_saying(thing):
        raise BadSaying("this is no saying")
    if len(bonds_in(thing)) > MOST_BONDS:
        raise TooMany(f"a saying with more than {MOST_BONDS} bonds is not judged")
    return thing


def own_bonds(saying):
    """Return the bonds that a saying brings besides those of its parts, the inner one first."""
    if saying[0] in ("next", "till", "always"):
        return [saying]
    if saying[0] == "again":
        later = ("till", ("yes",), saying[1])
        return [later, ("always", later)]
    return []


def _is_saying_within(thing, room):
    """Tell whether thing is a saying with at most room sayings within one another."""
    # The first one must be a text before it is looked up: a list cannot be a key.
    if room == 0 or type(thing) is not tuple or len(thing) == 0 or type(thing[0]) is not str:
        return False
    if thing[0] == "mark":
        return len(thing) == 2 and is_mark(thing[1]) and thing[1] != ""
    if thing[0] not in PARTS or len(thing) != 1 + PARTS[thing[0]]:
        return False
    return all([_is_saying_within(part, room - 1) for part in thing[1:]])


def _add_bonds(saying, row):
    """Add to the row the bonds of a saying that it does not hold yet."""
    if saying[0] == "mark":
        return
    # What stands within comes first, so that each bond is behind those that stand in it.
    for part in saying[1:]:
        _add_bonds(part, row)
    for bond in own_bonds(saying):
        if bond not in row:
            row.append(bond)
