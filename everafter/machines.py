"""Machines, and the marks along their endless walks."""

from everafter.errors import BadMachine, NoWalk
from everafter.marks import is_mark

MOST_PLACES = 12


class Machine:
    """Places with marks, the ways between them, and the places where walks begin."""

    def __init__(self, marks, ways, begins):
        if not _is_machine(marks, ways, begins):
            raise BadMachine("these marks, ways and beginnings make no machine")
        # Copies, so that the lists that were handed in may be changed afterwards.
        self._marks = list(marks)
        self._ways = [list(row) for row in ways]
        self._begins = list(begins)

    def mark(self, place):
        """Return the mark of a place."""
        return self._marks[place]

    def leads(self, place):
        """Return a new list of the places to which a place leads."""
        return list(self._ways[place])

    def starts(self):
        """Return a new list of the places where walks begin."""
        return list(self._begins)

    def places(self):
        """Return a new list of all places."""
        return list(range(len(self._marks)))

    def has_place(self, thing):
        """Tell whether thing, which may be anything, is a place of this machine."""
        return _is_place(thing, len(self._marks))


def marks_along(machine, way, ring):
    """Return the marks along the way and along the ring of an endless walk of the machine."""
    if not isinstance(machine, Machine) or not _is_walk(machine, way, ring):
        raise NoWalk("this way and this ring are no endless walk of the machine")
    return [machine.mark(place) for place in way], [machine.mark(place) for place in ring]


def _is_machine(marks, ways, begins):
    """Tell whether three things, which may be anything, make a machine."""
    if type(marks) is not list or not 1 <= len(marks) <= MOST_PLACES:
        return False
    if type(ways) is not list or len(ways) != len(marks):
        return False
    many = len(marks)
    return (all([is_mark(mark) for mark in marks])
            and all([_are_choices(row, many) for row in ways])
            and _are_choices(begins, many))


def _are_choices(things, many):
    """Tell whether things is a list of some of many places, one at least and none twice."""
    if type(things) is not list or len(things) == 0:
        return False
    # Only what surely are numbers may go into the set: a list could not.
    return all([_is_place(thing, many) for thing in things]) and len(set(things)) == len(things)


def _is_place(thing, many):
    """Tell whether thing is the number of one of many places; True and False are none."""
    return type(thing) is int and 0 <= thing < many


def _is_walk(machine, way, ring):
    """Tell whether a way and a ring, which may be anything, are an endless walk of the machine."""
    if type(way) is not list or type(ring) is not list or len(ring) == 0:
        return False
    # The ring's first place once more, for the ring's last one must lead to it.
    walk = [*way, *ring, ring[0]]
    if not all([machine.has_place(place) for place in walk]) or walk[0] not in machine.starts():
        return False
    return all([there in machine.leads(here) for here, there in zip(walk, walk[1:])])
