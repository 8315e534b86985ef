"""Guesses: a truth for each bond of a saying, what they tell, and which of them go on to one another."""

from everafter.sayings import bonds_in, own_bonds


def all_guesses(bonds):
    """Return a list of all guesses of these bonds, each once."""
    guesses = [()]
    for _ in bonds:
        guesses = [(*guess, truth) for guess in guesses for truth in (False, True)]
    return guesses


def is_so(saying, mark, bonds, guess):
    """Tell whether a saying holds, by a guess, at a place with a mark."""
    kind = saying[0]
    if kind == "mark":
        return mark == saying[1]
    if kind == "yes":
        return True
    if kind == "not":
        return not is_so(saying[1], mark, bonds, guess)
    if kind == "and":
        return is_so(saying[1], mark, bonds, guess) and is_so(saying[2], mark, bonds, guess)
    if kind == "or":
        return is_so(saying[1], mark, bonds, guess) or is_so(saying[2], mark, bonds, guess)
    # The last of its own bonds is a bond itself, and of an again its always.
    return guess[bonds.index(own_bonds(saying)[-1])]


def goes_on(bonds, now, then):
    """Tell whether two places, each told by a tuple of its mark and its guess, go on to one another."""
    return sight_goes_on(bonds, sight_at(bonds, now[0], now[1]), sight_at(bonds, then[0], then[1]))


def sight_at(bonds, mark, guess):
    """Return for each bond a tuple: its truth by a guess, and those of the sayings right within it."""
    sight = []
    for bond, truth in zip(bonds, guess):
        parts = [is_so(part, mark, bonds, guess) for part in bond[1:]]
        sight.append((truth, *parts))
    return sight


def sight_goes_on(bonds, here, there):
    """Tell whether two places, each told by its sight, go on to one another."""
    for bond, now, then in zip(bonds, here, there):
        if now[0] != _due_truth(bond[0], now, then):
            return False
    return True


def promises_of(saying):
    """Return the row of the promises of a saying, None first."""
    return [None] + [bond for bond in bonds_in(saying) if bond[0] in ("till", "always")]


def is_met(promise, mark, bonds, guess):
    """Tell whether a promise is met, by a guess, at a place with a mark."""
    if promise is None:
        return True
    held = guess[bonds.index(promise)]
    if promise[0] == "till":
        return not held or is_so(promise[2], mark, bonds, guess)
    return held or not is_so(promise[1], mark, bonds, guess)


def _due_truth(kind, now, then):
    """Return the truth that a bond must have at a place, by what is told of it there and at the next place."""
    if kind == "next":
        return then[1]
    if kind == "till":
        return now[2] or (now[1] and then[0])
    return now[1] and then[0]
