import unittest
from itertools import product

from everafter.errors import NoWalk, WalkError
from everafter.machines import Machine, marks_along
from odd_things import odd_things


def small_machine():
    """0 and 1 are beginnings; 0 leads to 1 and 2, 1 to 2, 2 to 0 and itself, 3 to itself."""
    return Machine(["a", "b", "", "dog"], [[1, 2], [2], [2, 0], [3]], [1, 0])


def is_walk_by_hand(way, ring):
    """Whether these are an endless walk of the small machine."""
    leads = {(0, 1), (0, 2), (1, 2), (2, 2), (2, 0), (3, 3)}
    if not ring or (way + ring)[0] not in (0, 1):
        return False
    walk = way + ring + ring[:1]
    return all(walk[at:at + 2] and tuple(walk[at:at + 2]) in leads for at in range(len(walk) - 1))


class WalkTest(unittest.TestCase):
    def test_marks_of_a_way_and_a_ring(self):
        self.assertEqual(marks_along(small_machine(), [0, 1], [2]), (["a", "b"], [""]))
        self.assertEqual(marks_along(small_machine(), [1], [2, 0]), (["b"], ["", "a"]))

    def test_an_empty_way(self):
        self.assertEqual(marks_along(small_machine(), [], [0, 1, 2]), ([], ["a", "b", ""]))

    def test_a_ring_of_one_place(self):
        self.assertEqual(marks_along(small_machine(), [0], [2]), (["a"], [""]))
        self.assertEqual(marks_along(Machine(["cat"], [[0]], [0]), [], [0]), ([], ["cat"]))

    def test_a_place_may_come_again(self):
        self.assertEqual(marks_along(small_machine(), [0, 2, 0, 2], [2, 2, 0, 1, 2]),
                         (["a", "", "a", ""], ["", "", "a", "b", ""]))

    def test_a_long_walk(self):
        self.assertEqual(marks_along(small_machine(), [0] + [2] * 5000, [2] * 5000),
                         (["a"] + [""] * 5000, [""] * 5000))

    def test_all_short_walks(self):
        machine = small_machine()
        rows = [list(row) for many in range(4) for row in product(range(4), repeat=many)]
        marks = ["a", "b", "", "dog"]
        for way in rows:
            for ring in rows:
                if is_walk_by_hand(way, ring):
                    told = ([marks[place] for place in way], [marks[place] for place in ring])
                    self.assertEqual(marks_along(machine, way, ring), told)
                else:
                    with self.assertRaises(NoWalk):
                        marks_along(machine, way, ring)

    def test_kinds_of_values(self):
        told = marks_along(small_machine(), [], [0, 2])
        self.assertIs(type(told), tuple)
        self.assertEqual([type(part) for part in told], [list, list])


class NoWalkTest(unittest.TestCase):
    def need_none(self, way, ring):
        with self.assertRaises(NoWalk) as caught:
            marks_along(small_machine(), way, ring)
        self.assertIs(type(caught.exception), NoWalk)
        self.assertIsInstance(caught.exception, WalkError)

    def test_the_rings_last_place_leads_to_its_first(self):
        self.need_none([], [0, 1])
        self.need_none([], [0])
        self.need_none([0], [1])
        self.need_none([0, 2], [0, 1])

    def test_the_ways_last_place_leads_to_the_rings_first(self):
        self.need_none([1], [0, 2])
        self.need_none([0], [3])

    def test_a_step_that_is_not_there(self):
        self.need_none([1, 0], [2])
        self.need_none([0], [2, 1])

    def test_it_begins_where_walks_begin(self):
        self.need_none([], [2])
        self.need_none([2, 0], [2])
        self.need_none([], [3])
        self.need_none([3], [3])

    def test_an_empty_ring(self):
        self.need_none([], [])
        self.need_none([0], [])
        self.need_none([0, 2], [])

    def test_places_out_of_range(self):
        for place in [-1, -4, -2, 4, 12, 10 ** 20]:
            self.need_none([], [place])
            self.need_none([place], [2])
            self.need_none([0, place], [2])
            self.need_none([0], [2, place])
            self.need_none([0], [place, 2])

    def test_true_and_false_are_no_numbers(self):
        self.assertEqual(marks_along(small_machine(), [0, 1], [2, 0]), (["a", "b"], ["", "a"]))
        self.need_none([0, True], [2, 0])
        self.need_none([False, 1], [2, 0])
        self.need_none([0, 1], [2, False])
        self.need_none([], [False, 2])
        self.need_none([], [True, 2, 0])

    def test_other_things_for_a_number(self):
        for thing in odd_things() + ["", "0", 0.0, 1.0, [], [0], (0,), {0: 0}]:
            self.need_none([thing], [2])
            self.need_none([0, thing], [2])
            self.need_none([0], [2, thing])
            self.need_none([], [thing])
            self.need_none([], [0, thing, 2])

    def test_things_that_are_no_lists(self):
        things = [thing for thing in odd_things() if not isinstance(thing, list)]
        for thing in things + [0, 1, "", "a", "0", (), (0,), (2,), {0: 0}, {2: 0}, range(2), {0}]:
            self.need_none(thing, [2])
            self.need_none([0], thing)
            self.need_none([], thing)
            self.need_none(thing, thing)
        self.need_none((0,), [2])
        self.need_none([0], (2,))

    def test_odd_things_for_both(self):
        for thing in odd_things():
            self.need_none(thing, thing)

    def test_odd_things_for_the_machine(self):
        for thing in odd_things():
            with self.assertRaises(NoWalk):
                marks_along(thing, [], [0])

    def test_what_is_refused_stays_as_it_was(self):
        way, ring = [1, 0], [2, [0]]
        self.need_none(way, ring)
        self.assertEqual((way, ring), ([1, 0], [2, [0]]))


class WalkOwnershipTest(unittest.TestCase):
    def test_what_is_told_is_new_each_time(self):
        machine = small_machine()
        first = marks_along(machine, [0], [2])
        second = marks_along(machine, [0], [2])
        first[0].clear()
        first[1].append("spoilt")
        self.assertEqual(second, (["a"], [""]))
        self.assertEqual(marks_along(machine, [0], [2]), (["a"], [""]))
        self.assertEqual(machine.mark(0), "a")

    def test_what_is_handed_in_stays_as_it_was(self):
        way, ring = [0, 1], [2, 0]
        told = marks_along(small_machine(), way, ring)
        self.assertEqual((way, ring), ([0, 1], [2, 0]))
        way.clear()
        ring.reverse()
        self.assertEqual(told, (["a", "b"], ["", "a"]))
        told[1].clear()
        self.assertEqual(ring, [0, 2])

    def test_one_list_handed_in_for_both(self):
        row = [0, 2]
        way, ring = marks_along(small_machine(), row, row)
        self.assertEqual((way, ring), (["a", ""], ["a", ""]))
        way.clear()
        self.assertEqual((ring, row), (["a", ""], [0, 2]))

    def test_an_empty_way_is_told_as_a_new_list(self):
        way = []
        told = marks_along(small_machine(), way, [0, 2])[0]
        told.append("spoilt")
        self.assertEqual(way, [])
        self.assertEqual(marks_along(small_machine(), way, [0, 2])[0], [])

    def test_the_machine_that_is_asked_counts(self):
        other = Machine(["x"], [[0]], [0])
        self.assertEqual(marks_along(other, [0], [0]), (["x"], ["x"]))
        with self.assertRaises(NoWalk):
            marks_along(other, [0], [2])
        with self.assertRaises(NoWalk):
            marks_along(small_machine(), [0], [0])


class WalksInterfaceTest(unittest.TestCase):
    def test_it_is_defined_in_its_file(self):
        self.assertEqual(marks_along.__module__, "everafter.machines")

    def test_names_of_the_arguments(self):
        self.assertEqual(marks_along(machine=small_machine(), way=[0], ring=[2]), (["a"], [""]))


if __name__ == "__main__":
    unittest.main()
