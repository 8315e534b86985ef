import unittest
from itertools import product

from by_hand import (A, B, YES, Dice, guesses_by_hand, met, promises_by_hand, small_sayings, some_parts, some_saying,
                     web_by_hand)
from everafter.errors import BadSaying, TooMany, WalkError
from everafter.guesses import goes_on, is_so
from everafter.machines import Machine
from everafter.sayings import bonds_in
from everafter.webs import Web
from odd_things import odd_things

YET = ("till", YES, A)
EVER = ("always", YET)
FIVE_BONDS = ("and", ("again", A), ("and", ("again", B), ("next", A)))

TWO = (["a", "b"], [[0, 1], [1]], [0])
LONELY = (["a", "b", "c"], [[1], [0], [2, 0]], [1])
PARTS = [(["a"], [[0]], [0]), ([""], [[0]], [0]), TWO, LONELY, (["a", "b"], [[1], [0]], [1, 0]),
         (["b", "a", ""], [[1, 2], [2, 0], [1]], [2, 0])]


def pairs(many):
    """Some machines' parts with sayings of at most four bonds."""
    dice, row = Dice(4), [(parts, saying) for parts in PARTS for saying in small_sayings()]
    while len(row) < many:
        parts, saying = some_parts(dice, 4), some_saying(dice, 5)
        if len(bonds_in(saying)) <= 4:
            row.append((parts, saying))
    return row


def fields(web):
    """All that a web tells in its fields."""
    return web.bonds, web.promises, web.knots, web.begun, web.threads


class SmallWebTest(unittest.TestCase):
    """Webs worked out by hand."""

    def test_a_next(self):
        web = Web(Machine(["a"], [[0]], [0]), ("next", A))
        knot = (0, (False,))
        self.assertEqual(fields(web), ([("next", A)], [None], [knot], 1, {knot: []}))
        web = Web(Machine(["a"], [[0]], [0]), ("next", B))
        other = (0, (True,))
        self.assertEqual((web.begun, web.knots), (1, [knot, other]))
        self.assertEqual({knot: sorted(ends) for knot, ends in web.threads.items()}, {knot: [knot, other], other: []})

    def test_a_till(self):
        saying = ("till", A, B)
        web = Web(Machine(*TWO), saying)
        no, never = (0, (False,)), (1, (False,))
        self.assertEqual((web.bonds, web.promises, web.begun), ([saying], [None, saying], 1))
        self.assertEqual(web.knots, [no, never])
        self.assertEqual({knot: sorted(ends) for knot, ends in web.threads.items()}, {no: [no, never], never: []})
        web = Web(Machine(*TWO), ("not", saying))
        so, late = (0, (True,)), (1, (True,))
        self.assertEqual((web.begun, web.knots[0], sorted(web.knots)), (1, so, [so, never, late]))
        self.assertEqual({knot: sorted(ends) for knot, ends in web.threads.items()},
                         {so: [so, late], late: [never, late], never: []})
        self.assertEqual([web.meets(knot, 0) for knot in (so, late, never)], [True, True, True])
        self.assertEqual([web.meets(knot, 1) for knot in (so, late, never)], [False, True, True])

    def test_an_always(self):
        saying = ("always", A)
        web = Web(Machine(*TWO), saying)
        no, late, wrong = (0, (False,)), (1, (False,)), (1, (True,))
        self.assertEqual((web.bonds, web.promises, web.begun), ([saying], [None, saying], 1))
        self.assertEqual({knot: sorted(ends) for knot, ends in web.threads.items()},
                         {no: [no, late], late: [late, wrong], wrong: []})
        self.assertEqual(web.knots[0], no)
        self.assertEqual([web.meets(knot, 1) for knot in (no, late, wrong)], [False, True, True])

    def test_an_again(self):
        web = Web(Machine(["a"], [[0]], [0]), ("again", A))
        none, once = (0, (False, False)), (0, (True, False))
        self.assertEqual((web.bonds, web.promises, web.begun), ([YET, EVER], [None, YET, EVER], 2))
        self.assertEqual({knot: sorted(ends) for knot, ends in web.threads.items()},
                         {none: [], once: [none, once]})
        self.assertEqual([[web.meets(knot, number) for number in range(3)] for knot in (none, once)],
                         [[True, True, True], [True, True, False]])

    def test_a_saying_without_bonds(self):
        web = Web(Machine(*TWO), B)
        first, second = (0, ()), (1, ())
        self.assertEqual((web.bonds, web.promises, web.begun), ([], [None], 1))
        self.assertEqual(web.knots, [first, second])
        self.assertEqual({knot: sorted(ends) for knot, ends in web.threads.items()},
                         {first: [first, second], second: [second]})

    def test_no_knot(self):
        for parts, saying in [(TWO, A), (TWO, YES), (LONELY, ("or", A, B)), (PARTS[0], ("not", B))]:
            web = Web(Machine(*parts), saying)
            self.assertEqual(fields(web), ([], [None], [], 0, {}))
        web = Web(Machine(*TWO), ("or", A, ("next", A)))
        self.assertEqual((web.bonds, web.knots, web.begun, web.threads), ([("next", A)], [], 0, {}))

    def test_a_place_that_is_not_come_to_has_no_knots(self):
        web = Web(Machine(*LONELY), ("not", ("again", A)))
        self.assertEqual(sorted({place for place, _ in web.knots}), [0, 1])

    def test_each_beginning_has_knots_and_no_other_place_begins(self):
        for begins in [[0], [1], [2], [2, 0], [0, 1, 2]]:
            web = Web(Machine(["a", "b", ""], [[0, 1, 2]] * 3, begins), ("next", A))
            self.assertEqual(sorted(web.knots[:web.begun]), sorted((place, (False,)) for place in begins))


class WebTest(unittest.TestCase):
    def test_knots_and_threads(self):
        for parts, saying in pairs(1200):
            web = Web(Machine(*parts), saying)
            bonds = bonds_in(saying)
            first, threads = web_by_hand(parts, saying, bonds)
            self.assertEqual((web.bonds, web.promises), (bonds, promises_by_hand(bonds)))
            self.assertEqual(web.begun, len(first))
            self.assertEqual(set(web.knots[:web.begun]), first)
            self.assertEqual(set(web.knots), set(threads))
            self.assertEqual(len(web.knots), len(threads))
            self.assertEqual(set(web.threads), set(threads))
            for knot, ends in web.threads.items():
                self.assertEqual(set(ends), threads[knot])
                self.assertEqual(len(ends), len(threads[knot]))

    def test_by_the_functions_of_the_other_files(self):
        for parts, saying in pairs(700):
            machine = Machine(*parts)
            web = Web(machine, saying)
            self.assertTrue(all(not is_so(saying, machine.mark(place), web.bonds, guess)
                                for place, guess in web.knots[:web.begun]))
            for (place, guess), (end, other) in product(web.knots, repeat=2):
                leads = end in machine.leads(place) and goes_on(
                    web.bonds, (machine.mark(place), guess), (machine.mark(end), other))
                self.assertEqual((end, other) in web.threads[place, guess], leads)

    def test_all_knots_are_come_to(self):
        for parts, saying in pairs(700):
            web = Web(Machine(*parts), saying)
            reached, row = set(web.knots[:web.begun]), web.knots[:web.begun]
            for knot in row:
                for end in web.threads[knot]:
                    if end not in reached:
                        reached.add(end)
                        row.append(end)
            self.assertEqual(reached, set(web.knots))

    def test_meets(self):
        for parts, saying in pairs(700):
            web = Web(Machine(*parts), saying)
            for place, guess in product(range(len(parts[0])), guesses_by_hand(web.bonds)):
                for number, promise in enumerate(web.promises):
                    self.assertIs(web.meets((place, guess), number), met(promise, parts[0][place], web.bonds, guess))

    def test_kinds_of_values(self):
        for parts, saying in pairs(700):
            web = Web(Machine(*parts), saying)
            self.assertEqual([type(field) for field in fields(web)], [list, list, list, int, dict])
            for knot in web.knots:
                self.assertEqual((type(knot), type(knot[0]), type(knot[1])), (tuple, int, tuple))
                self.assertTrue(all(type(truth) is bool for truth in knot[1]))
                self.assertIs(type(web.threads[knot]), list)

    def test_twelve_places(self):
        everywhere = (list("abcabcabcabc"), [list(range(12)) for _ in range(12)], list(range(12)))
        saying = ("or", ("again", A), ("not", ("again", B)))
        web = Web(Machine(*everywhere), saying)
        first, threads = web_by_hand(everywhere, saying, bonds_in(saying))
        self.assertEqual((set(web.knots[:web.begun]), web.begun), (first, len(first)))
        self.assertEqual({knot: set(ends) for knot, ends in web.threads.items()}, threads)


class RefusalTest(unittest.TestCase):
    def need_refused(self, thing, kind):
        with self.assertRaises(kind) as caught:
            Web(Machine(*TWO), thing)
        self.assertIs(type(caught.exception), kind)
        self.assertIsInstance(caught.exception, WalkError)

    def test_what_is_no_saying(self):
        for thing in odd_things() + [["yes"], ("mark", ""), ("not",), ("again", ["yes"]), ("or", FIVE_BONDS)]:
            self.need_refused(thing, BadSaying)
            self.need_refused(("not", thing), BadSaying)
            self.need_refused(("and", FIVE_BONDS, thing), BadSaying)

    def test_six_within_one_another(self):
        saying = A
        for _ in range(5):
            saying = ("not", saying)
        self.need_refused(saying, BadSaying)
        self.assertEqual(Web(Machine(*TWO), saying[1]).begun, 0)

    def test_too_many_bonds(self):
        self.need_refused(FIVE_BONDS, TooMany)
        self.need_refused(("not", FIVE_BONDS), TooMany)
        self.assertEqual(len(Web(Machine(*TWO), ("and", ("again", A), ("again", B))).bonds), 4)


class Turning(Machine):
    """A machine that can be turned to tell otherwise, which shows whether it is still asked."""

    def mark(self, place):
        return "z" if hasattr(self, "turned") else Machine.mark(self, place)

    def leads(self, place):
        return [] if hasattr(self, "turned") else Machine.leads(self, place)

    def starts(self):
        return [] if hasattr(self, "turned") else Machine.starts(self)


class OwnershipTest(unittest.TestCase):
    SAYING = ("or", ("again", A), ("next", B))

    def told_by(self, web):
        """A copy of all that a web tells."""
        knots = list(product(range(2), guesses_by_hand(web.bonds)))
        met_there = [[web.meets(knot, number) for number in range(len(web.promises))] for knot in knots]
        return (list(web.bonds), list(web.promises), list(web.knots), web.begun,
                [(knot, list(ends)) for knot, ends in web.threads.items()], met_there)

    def test_the_same_each_time(self):
        for parts, saying in pairs(100):
            first, second = Web(Machine(*parts), saying), Web(Machine(*parts), saying)
            self.assertEqual(fields(first), fields(second))
            self.assertEqual(list(first.threads), list(second.threads))

    def test_two_webs_beside_one_another(self):
        machine = Machine(*TWO)
        web = Web(machine, self.SAYING)
        told = self.told_by(web)
        twin, other = Web(machine, self.SAYING), Web(Machine(*LONELY), ("always", B))
        self.assertEqual(self.told_by(twin), told)
        for one in (twin, other):
            for ends in one.threads.values():
                ends.clear()
            one.knots.clear()
            one.threads.clear()
            one.bonds.clear()
            one.promises.reverse()
        self.assertEqual(self.told_by(web), told)
        self.assertEqual(self.told_by(Web(machine, self.SAYING)), told)

    def test_no_two_knots_share_a_list(self):
        web = Web(Machine(["a", "a"], [[0, 1], [0, 1]], [0, 1]), self.SAYING)
        lists = list(web.threads.values())
        self.assertEqual(len({id(ends) for ends in lists}), len(lists))

    def test_fields_that_are_changed_do_not_change_what_is_met(self):
        web = Web(Machine(*TWO), self.SAYING)
        knots = list(product(range(2), guesses_by_hand(web.bonds)))
        told = [[web.meets(knot, number) for number in range(3)] for knot in knots]
        web.bonds.clear()
        web.promises.reverse()
        web.knots.clear()
        web.threads.clear()
        self.assertEqual([[web.meets(knot, number) for number in range(3)] for knot in knots], told)

    def test_the_machine_is_not_changed(self):
        parts = (["a", "b"], [[1, 0], [0]], [1, 0])
        machine = Machine(*parts)
        web = Web(machine, self.SAYING)
        for ends in web.threads.values():
            ends.clear()
        web.knots.clear()
        self.assertEqual([machine.mark(place) for place in (0, 1)], ["a", "b"])
        self.assertEqual([machine.leads(place) for place in (0, 1)], [[1, 0], [0]])
        self.assertEqual(machine.starts(), [1, 0])
        self.assertEqual(parts, (["a", "b"], [[1, 0], [0]], [1, 0]))

    def test_lists_of_which_the_machine_was_made_may_be_changed(self):
        marks, ways, begins = ["a", "b"], [[1, 0], [0]], [1, 0]
        machine = Machine(marks, ways, begins)
        web = Web(machine, self.SAYING)
        told = self.told_by(web)
        marks.clear()
        ways[0].clear()
        begins.clear()
        self.assertEqual(self.told_by(web), told)
        self.assertEqual(self.told_by(Web(machine, self.SAYING)), told)

    def test_the_machine_is_not_kept(self):
        machine = Turning(*TWO)
        web = Web(machine, self.SAYING)
        told = self.told_by(web)
        machine.turned = True
        self.assertEqual(self.told_by(web), told)

    def test_asking_changes_nothing(self):
        web = Web(Machine(*TWO), self.SAYING)
        told = self.told_by(web)
        self.assertEqual(self.told_by(web), told)
        with self.assertRaises(BadSaying):
            Web(Machine(*TWO), None)
        self.assertEqual(self.told_by(web), told)


class InterfaceTest(unittest.TestCase):
    def test_it_is_defined_in_its_file(self):
        self.assertEqual(Web.__module__, "everafter.webs")
        self.assertIn("meets", Web.__dict__)

    def test_fields_are_set_on_each_object(self):
        web = Web(machine=Machine(*TWO), saying=("again", A))
        for name in ("bonds", "promises", "knots", "begun", "threads"):
            self.assertIn(name, vars(web))

    def test_names_of_the_arguments(self):
        web = Web(machine=Machine(*TWO), saying=("next", A))
        self.assertIs(web.meets(knot=(0, (False,)), number=0), True)


if __name__ == "__main__":
    unittest.main()
