"""The points of the document put straight into Python, and things to try them on.

Nothing here is taken from what it tests: only the row of bonds, which says what stands where in a guess, is handed in.
"""

from functools import lru_cache

YES = ("yes",)
A = ("mark", "a")
B = ("mark", "b")
C = ("mark", "c")
ONES = ["not", "next", "always", "again"]
TWOS = ["and", "or", "till"]
EACH_KIND = [YES, A] + [(kind, A) for kind in ONES] + [(kind, A, B) for kind in TWOS]


@lru_cache(maxsize=None)
def holds_at(saying, way, ring, moment):
    """Point [2]; way and ring are tuples. All that differs of a moment comes within one way and one ring from it."""
    kind, *parts = saying
    if moment >= len(way) + len(ring):
        return holds_at(saying, way, ring, moment - len(ring))
    soon = range(moment, moment + len(way) + len(ring))
    late = range(len(way), len(way) + len(ring))

    def there(number, at):
        return holds_at(parts[number], way, ring, at)

    if kind == "mark":
        return (way + ring)[moment] == parts[0]
    if kind == "yes":
        return True
    if kind == "not":
        return not there(0, moment)
    if kind == "and":
        return there(0, moment) and there(1, moment)
    if kind == "or":
        return there(0, moment) or there(1, moment)
    if kind == "next":
        return there(0, moment + 1)
    if kind == "till":
        return any(there(1, end) and all(there(0, at) for at in range(moment, end)) for end in soon)
    if kind == "always":
        return all(there(0, at) for at in soon)
    assert kind == "again"
    return any(there(0, at) for at in late)


def row_by_hand(saying, way, ring):
    """Whether the saying holds at each moment of the way and of the first round of the ring."""
    return [holds_at(saying, tuple(way), tuple(ring), at) for at in range(len(way) + len(ring))]


def told(saying, mark, truths):
    """Point [5], what a guess tells; truths is a dict from bonds to their truths."""
    kind, *parts = saying
    if kind == "again":
        return truths[("always", ("till", YES, parts[0]))]
    if saying in truths:
        return truths[saying]
    return {"yes": lambda: True, "mark": lambda: mark == parts[0],
            "not": lambda: not told(parts[0], mark, truths),
            "and": lambda: all([told(part, mark, truths) for part in parts]),
            "or": lambda: any([told(part, mark, truths) for part in parts])}[kind]()


def fits(bonds, now, then):
    """Point [5], whether two places with guesses go on to one another."""
    (mark, guess), (next_mark, next_guess) = now, then
    here, there = dict(zip(bonds, guess)), dict(zip(bonds, next_guess))
    for bond in bonds:
        if bond[0] == "next":
            due = told(bond[1], next_mark, there)
        elif bond[0] == "till":
            due = told(bond[2], mark, here) or (told(bond[1], mark, here) and there[bond])
        else:
            due = told(bond[1], mark, here) and there[bond]
        if here[bond] != due:
            return False
    return True


def met(promise, mark, bonds, guess):
    """Point [6], whether a promise is met."""
    truths = dict(zip(bonds, guess))
    if promise is None:
        return True
    if promise[0] == "till":
        return not truths[promise] or told(promise[2], mark, truths)
    return truths[promise] or not told(promise[1], mark, truths)


def promises_by_hand(bonds):
    """Point [6], the row of promises."""
    return [None] + [bond for bond in bonds if bond[0] != "next"]


def guesses_by_hand(bonds):
    """Point [5], all guesses, counted up like numbers."""
    return [tuple(bool(number >> at & 1) for at in range(len(bonds))) for number in range(2 ** len(bonds))]


def web_by_hand(parts, saying, bonds):
    """Point [7]: the first knots, and a dict from all knots to those to which threads lead, all without an order."""
    marks, ways, begins = parts
    guesses = guesses_by_hand(bonds)
    first = {(place, guess) for place in begins for guess in guesses
             if not told(saying, marks[place], dict(zip(bonds, guess)))}
    threads, open_knots = {}, set(first)
    while open_knots:
        place, guess = knot = open_knots.pop()
        threads[knot] = {(end, other) for end in ways[place] for other in guesses
                         if fits(bonds, (marks[place], guess), (marks[end], other))}
        open_knots |= threads[knot] - set(threads)
    return first, threads


class Dice:
    """Throws that are the same each time: the tests are to tell the same whenever they are run."""

    def __init__(self, seed):
        self.state = seed

    def below(self, many):
        self.state = (self.state * 6364136223846793005 + 1442695040888963407) % 2 ** 64
        return (self.state >> 33) % many

    def one_of(self, things):
        return things[self.below(len(things))]

    def some_of(self, things):
        """A list of some, one at least, in any order, none twice."""
        left, taken = list(things), []
        for _ in range(1 + self.below(min(3, len(left)))):
            taken.append(left.pop(self.below(len(left))))
        return taken


def some_saying(dice, room, marks=("a", "b", "c")):
    """A saying of at most so many within one another."""
    if room == 1 or dice.below(6) == 0:
        return ("mark", dice.one_of(marks)) if dice.below(8) else YES
    kind = dice.one_of(ONES + TWOS)
    return (kind,) + tuple(some_saying(dice, room - 1, marks) for _ in range(2 if kind in TWOS else 1))


def some_parts(dice, most, marks=("a", "b", "c", "")):
    """Marks, ways and beginnings of a machine of at most so many places."""
    places = range(1 + dice.below(most))
    return [dice.one_of(marks) for _ in places], [dice.some_of(places) for _ in places], dice.some_of(places)


def small_sayings():
    """Each kind, and each kind within each kind."""
    row = list(EACH_KIND)
    for inner in EACH_KIND:
        row += [(kind, inner) for kind in ONES]
        row += [(kind, inner, B) for kind in TWOS] + [(kind, A, inner) for kind in TWOS]
    return row
