"""What each judgement must show, for the tests of judging."""

import unittest
from itertools import product

from by_hand import holds_at, met, promises_by_hand, web_by_hand
from everafter.judging import judged
from everafter.machines import Machine, marks_along
from everafter.meaning import holds
from everafter.sayings import bonds_in
from everafter.webs import Web


def walks_of(parts, longest_way, longest_ring):
    """All endless walks with a way and a ring that are no longer than that."""
    marks, ways, begins = parts
    rows, found = [[place] for place in begins], []
    while rows:
        row = rows.pop()
        for at in range(len(row)):
            if at <= longest_way and len(row) - at <= longest_ring and row[at] in ways[row[-1]]:
                found.append((row[:at], row[at:]))
        if len(row) < longest_way + longest_ring:
            rows += [row + [end] for end in ways[row[-1]]]
    return found


def renumbered(parts, numbers):
    """The same machine, of which each place has the number that stands for it in numbers; rows are turned, too."""
    marks, ways, begins = parts
    old = sorted(range(len(marks)), key=lambda place: numbers[place])
    return ([marks[place] for place in old], [[numbers[end] for end in reversed(ways[place])] for place in old],
            [numbers[place] for place in reversed(begins)])


class JudgingCase(unittest.TestCase):
    def word(self, parts, saying):
        """The word of a judgement, all of which is held against the document."""
        told = judged(Machine(*parts), saying)
        self.assertIs(type(told), tuple)
        self.assertIn(told[0], ("keeps", "breaks"))
        if told[0] == "keeps":
            self.assertEqual(len(told), 2)
            self.need_ranks(parts, saying, told[1])
            self.need_no_short_walk(parts, saying)
        else:
            self.assertEqual(len(told), 3)
            self.need_walk(parts, saying, told[1], told[2])
        return told[0]

    def need_ranks(self, parts, saying, rows):
        """Point [8]: what shows that the saying is kept."""
        bonds = bonds_in(saying)
        promises, threads = promises_by_hand(bonds), web_by_hand(parts, saying, bonds)[1]
        self.assertIs(type(rows), list)
        for row in rows:
            self.assertEqual([type(part) for part in row], [int, tuple, int, int])
            self.assertTrue(all(type(truth) is bool for truth in row[1]))
            self.assertIs(type(row), tuple)
            self.assertGreaterEqual(row[2], 0)
            self.assertIn(row[3], range(len(promises)))
        self.assertEqual(sorted((place, guess) for place, guess, _, _ in rows), sorted(threads))
        self.assertEqual(sorted(threads), sorted(Web(Machine(*parts), saying).knots))
        ranks = {(place, guess): rank for place, guess, rank, _ in rows}
        promise_of = dict({(rank, number) for _, _, rank, number in rows})
        self.assertEqual(len(promise_of), len({(rank, number) for _, _, rank, number in rows}), "two promises")
        for knot, ends in threads.items():
            for place, guess in ends:
                rank = ranks[place, guess]
                self.assertLessEqual(rank, ranks[knot])
                if rank == ranks[knot]:
                    self.assertFalse(met(promises[promise_of[rank]], parts[0][place], bonds, guess))

    def need_walk(self, parts, saying, way, ring):
        """Point [8]: what shows that it is not."""
        self.assertEqual([type(row) for row in (way, ring)], [list, list])
        marks = marks_along(Machine(*parts), way, ring)
        self.assertIs(holds(saying, *marks), False)
        self.assertFalse(holds_at(saying, tuple(marks[0]), tuple(marks[1]), 0))

    def need_no_short_walk(self, parts, saying):
        """No walk of a few steps breaks the saying."""
        for way, ring in walks_of(parts, 2, 2):
            marks = [tuple(parts[0][place] for place in row) for row in (way, ring)]
            self.assertTrue(holds_at(saying, *marks, 0), (parts, saying, way, ring))

    def need_keeps(self, parts, saying):
        self.assertEqual(self.word(parts, saying), "keeps", (parts, saying))

    def need_breaks(self, parts, saying):
        self.assertEqual(self.word(parts, saying), "breaks", (parts, saying))


def all_machines(many, marks):
    """The parts of all machines of so many places, with beginnings at the first places."""
    rows = [[place for place in range(many) if number >> place & 1] for number in range(1, 2 ** many)]
    for names in product(marks, repeat=many):
        for ways in product(rows, repeat=many):
            for begins in range(1, many + 1):
                yield list(names), [list(row) for row in ways], list(range(begins))
