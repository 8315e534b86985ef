"""Webs: the knots by which a machine might break a saying, and the threads between them."""

from everafter.guesses import all_guesses, is_met, is_so, promises_of, sight_at, sight_goes_on
from everafter.sayings import bonds_in, need_saying


class Web:
    """The web of a machine and a saying; a knot is a tuple of a place and a guess."""

    def __init__(self, machine, saying):
        self.bonds = bonds_in(need_saying(saying))
        self.promises = promises_of(saying)
        begins = _first_knots(machine, saying, self.bonds)
        self.begun = len(begins)
        self.threads = _threads_from(begins, machine, self.bonds)
        self.knots = list(self.threads)
        # What meets tells is worked out here, for the machine is not kept and the fields are told to others.
        self._met = _met_promises(machine, self.bonds, self.promises)

    def meets(self, knot, number):
        """Tell whether the promise of a number is met at a knot."""
        return self._met[knot][number]


def _every_knot(machine, bonds):
    """Return all knots of a machine, whether they are in a web or not."""
    guesses = all_guesses(bonds)
    return [(place, guess) for place in machine.places() for guess in guesses]


def _first_knots(machine, saying, bonds):
    """Return the knots of the places where walks begin by whose guess the saying does not hold."""
    guesses = all_guesses(bonds)
    return [(place, guess) for place in machine.starts() for guess in guesses
            if not is_so(saying, machine.mark(place), bonds, guess)]


def _threads_from(begins, machine, bonds):
    """Return the threads of the first knots and of all to which threads lead, in the order of coming to them."""
    sights = {knot: sight_at(bonds, machine.mark(knot[0]), knot[1]) for knot in _every_knot(machine, bonds)}
    guesses = all_guesses(bonds)
    row = list(begins)
    known = {knot: True for knot in begins}
    threads = {}
    while len(threads) < len(row):
        knot = row[len(threads)]
        ends = [(place, guess) for place in machine.leads(knot[0]) for guess in guesses]
        threads[knot] = [end for end in ends if sight_goes_on(bonds, sights[knot], sights[end])]
        for end in threads[knot]:
            if end not in known:
                known[end] = True
                row.append(end)
    return threads


def _met_promises(machine, bonds, promises):
    """Return a dict from all knots to lists that tell of each promise whether it is met there."""
    return {(place, guess): [is_met(promise, machine.mark(place), bonds, guess) for promise in promises]
            for place, guess in _every_knot(machine, bonds)}
