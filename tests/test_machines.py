import unittest

from everafter.errors import BadMachine, WalkError
from everafter.machines import Machine
from odd_things import odd_things


def circle(many):
    """Marks, ways and beginnings of so many places, each of which leads to the next one."""
    return ["a"] * many, [[(place + 1) % many] for place in range(many)], [0]


def told_by(machine, many):
    """All that a machine tells of its places."""
    places = range(many)
    return [machine.mark(place) for place in places], [machine.leads(place) for place in places], machine.starts()


class MachineTest(unittest.TestCase):
    def test_one_place(self):
        machine = Machine(["a"], [[0]], [0])
        self.assertEqual(told_by(machine, 1), (["a"], [[0]], [0]))

    def test_twelve_places(self):
        parts = (list("abcdefghijkl"), [list(range(12)) for _ in range(12)], list(range(12)))
        self.assertEqual(told_by(Machine(*parts), 12), parts)

    def test_each_number_of_places(self):
        for many in range(1, 13):
            self.assertEqual(told_by(Machine(*circle(many)), many), circle(many))

    def test_marks(self):
        marks = ["", "a", "z", "abcdef", "a", ""]
        machine = Machine(marks, [[0]] * 6, [0])
        self.assertEqual([machine.mark(place) for place in range(6)], marks)

    def test_the_order_that_was_handed_in(self):
        machine = Machine(["a", "b", "c"], [[2, 0, 1], [1, 0], [0, 2]], [2, 0, 1])
        self.assertEqual([machine.leads(place) for place in range(3)], [[2, 0, 1], [1, 0], [0, 2]])
        self.assertEqual(machine.starts(), [2, 0, 1])

    def test_places_to_which_nothing_leads(self):
        machine = Machine(["a", "b"], [[0], [0]], [0])
        self.assertEqual(machine.leads(1), [0])

    def test_kinds_of_values(self):
        machine = Machine(["a"], [[0]], [0])
        self.assertIs(type(machine.mark(0)), str)
        self.assertIs(type(machine.leads(0)), list)
        self.assertIs(type(machine.starts()), list)


class PlacesTest(unittest.TestCase):
    def test_all_places(self):
        for many in range(1, 13):
            machine = Machine(*circle(many))
            machine.places().clear()
            self.assertEqual(machine.places(), list(range(many)))
            self.assertIs(type(machine.places()), list)


class RefusalTest(unittest.TestCase):
    def need_bad(self, marks, ways, begins):
        with self.assertRaises(BadMachine) as caught:
            Machine(marks, ways, begins)
        self.assertIs(type(caught.exception), BadMachine)
        self.assertIsInstance(caught.exception, WalkError)

    def test_no_places_and_thirteen(self):
        self.need_bad([], [], [])
        self.need_bad([], [], [0])
        self.need_bad([], [[0]], [0])
        self.need_bad(*circle(13))
        self.need_bad(*circle(40))

    def test_marks_that_are_none(self):
        for mark in odd_things() + ["abcdefg", "A", "aB", " ", "a ", "a\n", "1", "`", "{", 0, 1, [], ["a"], ("a",)]:
            self.need_bad([mark], [[0]], [0])
            self.need_bad(["a", mark], [[0], [1]], [0])

    def test_ways_or_beginnings_that_are_empty(self):
        self.need_bad(["a", "b"], [[0], []], [0])
        self.need_bad(["a", "b"], [[], [0]], [0])
        self.need_bad(["a"], [[]], [0])
        self.need_bad(["a"], [], [0])
        self.need_bad(["a"], [[0]], [])

    def test_twice_the_same(self):
        self.need_bad(["a", "b"], [[0, 0], [1]], [0])
        self.need_bad(["a", "b"], [[1], [1, 0, 1]], [0])
        self.need_bad(["a", "b"], [[1], [0]], [1, 1])
        self.need_bad(["a", "b"], [[1], [0]], [1, 0, 1])

    def test_out_of_range(self):
        for place in [-1, -2, 2, 3, 12, 10 ** 20, -(10 ** 20)]:
            self.need_bad(["a", "b"], [[place], [0]], [0])
            self.need_bad(["a", "b"], [[0], [1, place]], [0])
            self.need_bad(["a", "b"], [[0], [1]], [place])
            self.need_bad(["a", "b"], [[0], [1]], [0, place])

    def test_other_things_for_a_number(self):
        for thing in odd_things() + ["", "0", 0.0, 1.0, [], [0], (0,), {0: 0}]:
            self.need_bad(["a", "b"], [[thing], [0]], [0])
            self.need_bad(["a", "b"], [[0], [1, thing]], [0])
            self.need_bad(["a", "b"], [[0], [1]], [thing])
            self.need_bad(["a", "b"], [[0], [1]], [0, thing])

    def test_other_things_for_a_list(self):
        for thing in odd_things() + [0, 1, "", "a", "0", (), (0,), ("a",), ([0],), {0: [0]}, range(1), {0}]:
            self.need_bad(thing, [[0]], [0])
            self.need_bad(["a"], thing, [0])
            self.need_bad(["a"], [thing], [0])
            self.need_bad(["a"], [[0]], thing)
            self.need_bad(thing, thing, thing)

    def test_tuples_for_lists(self):
        self.need_bad(("a", "b"), [[0], [1]], [0])
        self.need_bad(["a", "b"], ([0], [1]), [0])
        self.need_bad(["a", "b"], [[0], (1,)], [0])
        self.need_bad(["a", "b"], [(0,), [1]], [0])
        self.need_bad(["a", "b"], [[0], [1]], (0,))

    def test_too_few_and_too_many_rows(self):
        self.need_bad(["a", "b"], [[0]], [0])
        self.need_bad(["a", "b"], [[0], [1], [0]], [0])
        self.need_bad(["a"], [[0], [0]], [0])

    def test_what_is_refused_stays_as_it_was(self):
        marks, ways, begins = ["a", "b"], [[1, 0], [0, 0]], [1, True]
        self.need_bad(marks, ways, begins)
        self.assertEqual((marks, ways, begins), (["a", "b"], [[1, 0], [0, 0]], [1, True]))
        self.assertIs(begins[1], True)


class OwnershipTest(unittest.TestCase):
    def setUp(self):
        self.parts = (["a", "b"], [[1, 0], [0]], [1, 0])
        self.machine = Machine(*self.parts)

    def need_unchanged(self):
        self.assertEqual(told_by(self.machine, 2), (["a", "b"], [[1, 0], [0]], [1, 0]))

    def test_what_is_told_may_be_changed(self):
        self.machine.leads(0).append(7)
        self.machine.leads(1).clear()
        self.machine.starts().reverse()
        self.machine.starts().clear()
        self.need_unchanged()

    def test_what_was_told_stays_as_it_was(self):
        leads, starts = self.machine.leads(0), self.machine.starts()
        self.machine.leads(0).clear()
        self.machine.starts().clear()
        self.assertEqual((leads, starts), ([1, 0], [1, 0]))

    def test_lists_handed_in_may_be_changed(self):
        marks, ways, begins = self.parts
        marks[0] = "z"
        ways[1].append(1)
        ways[0] = [0]
        begins.reverse()
        begins.clear()
        self.need_unchanged()
        marks.clear()
        ways.clear()
        self.need_unchanged()

    def test_lists_handed_in_are_not_changed(self):
        told_by(self.machine, 2)
        self.assertEqual(self.parts, (["a", "b"], [[1, 0], [0]], [1, 0]))

    def test_one_list_handed_in_for_several(self):
        row = [1, 0]
        machine = Machine(["", ""], [row, row], row)
        machine.leads(0).clear()
        row.clear()
        self.assertEqual(told_by(machine, 2), (["", ""], [[1, 0], [1, 0]], [1, 0]))

    def test_two_machines_beside_one_another(self):
        other = Machine(["x", "y", "z"], [[2], [0, 1], [1]], [2])
        self.need_unchanged()
        self.assertEqual(told_by(other, 3), (["x", "y", "z"], [[2], [0, 1], [1]], [2]))
        twin = Machine(*self.parts)
        twin.starts().clear()
        self.parts[1][0].clear()
        self.assertEqual(told_by(twin, 2), told_by(self.machine, 2))
        self.need_unchanged()

    def test_a_refusal_changes_no_other_machine(self):
        with self.assertRaises(BadMachine):
            Machine(["x"], [[0]], [1])
        self.need_unchanged()


class MachinesInterfaceTest(unittest.TestCase):
    def test_the_class_and_its_methods_are_defined_in_their_place(self):
        self.assertEqual(Machine.__module__, "everafter.machines")
        for name in ("mark", "leads", "starts"):
            self.assertIn(name, Machine.__dict__)

    def test_names_of_the_arguments(self):
        machine = Machine(marks=["a"], ways=[[0]], begins=[0])
        self.assertEqual(machine.mark(place=0), "a")
        self.assertEqual(machine.leads(place=0), [0])


if __name__ == "__main__":
    unittest.main()
