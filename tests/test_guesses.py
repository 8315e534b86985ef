import unittest
from itertools import product

from by_hand import (A, B, C, EACH_KIND, YES, Dice, fits, guesses_by_hand, met, promises_by_hand, small_sayings,
                     some_saying, told)
from everafter.guesses import all_guesses, goes_on, is_met, is_so, promises_of
from everafter.meaning import row_of
from everafter.sayings import bonds_in

MARKS = ["a", "b", "c", "", "zzz"]
YET = ("till", YES, A)
EVER = ("always", YET)


def parts_of(saying):
    """The saying and all that stand in it."""
    return [saying] + [inner for part in saying[1:] if isinstance(part, tuple) for inner in parts_of(part)]


def some_sayings(many, room=5, bonds=4):
    """Sayings with at most so many bonds."""
    dice, row = Dice(3), []
    while len(row) < many:
        saying = some_saying(dice, room)
        if len(bonds_in(saying)) <= bonds:
            row.append(saying)
    return row


class AllGuessesTest(unittest.TestCase):
    def need_all(self, bonds):
        guesses = all_guesses(bonds)
        self.assertIs(type(guesses), list)
        self.assertEqual(len(guesses), 2 ** len(bonds))
        self.assertEqual(sorted(guesses), sorted(guesses_by_hand(bonds)))
        for guess in guesses:
            self.assertIs(type(guess), tuple)
            self.assertTrue(all(type(truth) is bool for truth in guess))

    def test_no_bonds(self):
        self.assertEqual(all_guesses([]), [()])
        self.need_all(bonds_in(("not", A)))

    def test_one_bond_to_four(self):
        self.assertEqual(sorted(all_guesses([("next", A)])), [(False,), (True,)])
        self.need_all([("next", A), ("next", B)])
        self.need_all(bonds_in(("next", ("again", A))))
        self.need_all(bonds_in(("or", ("again", A), ("again", B))))
        self.assertEqual(len(all_guesses(bonds_in(("again", ("again", A))))), 16)

    def test_more_than_four_bonds(self):
        self.need_all(bonds_in(("and", ("again", A), ("and", ("again", B), ("next", ("always", C))))))

    def test_what_is_told_is_a_new_list(self):
        bonds = bonds_in(("again", A))
        first, second = all_guesses(bonds), all_guesses(bonds)
        first.clear()
        self.assertEqual(len(second), 4)
        self.need_all(bonds)
        self.assertEqual(bonds, [YET, EVER])
        bonds.clear()
        self.assertEqual(len(second), 4)


class IsSoTest(unittest.TestCase):
    def need_so(self, saying, mark, bonds, guess, truth):
        self.assertIs(is_so(saying, mark, bonds, guess), truth, (saying, mark, bonds, guess))

    def test_marks_and_yes(self):
        for guess in all_guesses([("next", A)]):
            for mark in MARKS:
                self.need_so(A, mark, [("next", A)], guess, mark == "a")
                self.need_so(("mark", "zzz"), mark, [("next", A)], guess, mark == "zzz")
                self.need_so(YES, mark, [("next", A)], guess, True)
        self.need_so(YES, "", [], (), True)

    def test_not_and_or(self):
        for s, t in product([A, YES, ("not", YES), ("not", A), B], repeat=2):
            for mark in MARKS:
                one, other = is_so(s, mark, [], ()), is_so(t, mark, [], ())
                self.need_so(("not", s), mark, [], (), not one)
                self.need_so(("and", s, t), mark, [], (), one and other)
                self.need_so(("or", s, t), mark, [], (), one or other)

    def test_a_bond_is_told_by_the_guess_alone(self):
        for bond in [("next", A), ("till", A, B), ("always", A), ("next", YES), ("till", YES, YES), ("always", YES)]:
            for mark, truth in product(MARKS, [True, False]):
                self.need_so(bond, mark, [bond], (truth,), truth)
                self.need_so(("not", bond), mark, [bond], (truth,), not truth)
                self.need_so(("and", bond, B), mark, [bond], (truth,), truth and mark == "b")
                self.need_so(("or", bond, B), mark, [bond], (truth,), truth or mark == "b")

    def test_each_bond_by_its_own_truth(self):
        bonds = [("next", A), ("next", B), ("till", A, B), ("always", B)]
        for guess in all_guesses(bonds):
            for bond, truth in zip(bonds, guess):
                self.need_so(bond, "a", bonds, guess, truth)

    def test_an_again_is_told_by_its_always(self):
        for yet, ever in product([True, False], repeat=2):
            for mark in MARKS:
                self.need_so(("again", A), mark, [YET, EVER], (yet, ever), ever)
                self.need_so(YET, mark, [YET, EVER], (yet, ever), yet)
                self.need_so(EVER, mark, [YET, EVER], (yet, ever), ever)
                self.need_so(("and", ("again", A), ("not", YET)), mark, [YET, EVER], (yet, ever), ever and not yet)

    def test_agains_beside_and_within_one_another(self):
        two = ("and", ("again", A), ("again", B))
        for guess in all_guesses(bonds_in(two)):
            self.need_so(("again", A), "", bonds_in(two), guess, guess[1])
            self.need_so(("again", B), "", bonds_in(two), guess, guess[3])
        within = ("again", ("again", A))
        for guess in all_guesses(bonds_in(within)):
            self.need_so(("again", A), "", bonds_in(within), guess, guess[1])
            self.need_so(within, "", bonds_in(within), guess, guess[3])

    def test_by_hand(self):
        for saying in small_sayings() + some_sayings(60):
            bonds = bonds_in(saying)
            for guess in guesses_by_hand(bonds):
                for mark in MARKS[:4]:
                    for part in parts_of(saying):
                        self.need_so(part, mark, bonds, guess, told(part, mark, dict(zip(bonds, guess))))


class GoesOnTest(unittest.TestCase):
    def need_on(self, bonds, now, then, truth):
        self.assertIs(goes_on(bonds, now, then), truth, (bonds, now, then))

    def test_no_bonds(self):
        for mark, other in product(MARKS, repeat=2):
            self.need_on([], (mark, ()), (other, ()), True)

    def test_next(self):
        bonds = [("next", A)]
        for mark, later in product(MARKS, [True, False]):
            self.need_on(bonds, (mark, (True,)), ("a", (later,)), True)
            self.need_on(bonds, (mark, (False,)), ("a", (later,)), False)
            self.need_on(bonds, (mark, (True,)), ("b", (later,)), False)
            self.need_on(bonds, (mark, (False,)), ("b", (later,)), True)

    def test_till(self):
        bonds = [("till", A, B)]
        for mark, other, later in product(MARKS, MARKS, [True, False]):
            due = mark == "b" or (mark == "a" and later)
            self.need_on(bonds, (mark, (due,)), (other, (later,)), True)
            self.need_on(bonds, (mark, (not due,)), (other, (later,)), False)

    def test_always(self):
        bonds = [("always", A)]
        for mark, other, later in product(MARKS, MARKS, [True, False]):
            due = mark == "a" and later
            self.need_on(bonds, (mark, (due,)), (other, (later,)), True)
            self.need_on(bonds, (mark, (not due,)), (other, (later,)), False)

    def test_a_bond_within_a_next_is_told_by_the_second_guess(self):
        bonds = [("next", A), ("next", ("next", A))]
        for now, then in product(all_guesses(bonds), repeat=2):
            for mark, other in product("ab", repeat=2):
                self.need_on(bonds, (mark, now), (other, then), now[0] == (other == "a") and now[1] == then[0])

    def test_bonds_within_a_till_and_an_always_are_told_by_the_first_guess(self):
        goal, ahead, kept = ("till", A, ("next", B)), ("till", ("next", B), A), ("always", ("next", B))
        for (inner, now), (other_inner, then) in product(product([True, False], repeat=2), repeat=2):
            for mark, other in product("ab", repeat=2):
                places = (mark, (inner, now)), (other, (other_inner, then))
                right = inner == (other == "b")
                self.need_on([("next", B), goal], *places, right and now == (inner or (mark == "a" and then)))
                self.need_on([("next", B), ahead], *places, right and now == (mark == "a" or (inner and then)))
                self.need_on([("next", B), kept], *places, right and now == (inner and then))

    def test_an_again_by_its_bonds(self):
        bonds = [YET, EVER]
        for (yet, ever), (next_yet, next_ever) in product(product([True, False], repeat=2), repeat=2):
            for mark in MARKS:
                right = yet == (mark == "a" or next_yet) and ever == (yet and next_ever)
                self.need_on(bonds, (mark, (yet, ever)), ("b", (next_yet, next_ever)), right)

    def test_one_bond_that_is_not_right_is_enough(self):
        bonds = [("next", A), ("next", B), ("next", C), ("next", ("not", A))]
        for guess in all_guesses(bonds):
            self.need_on(bonds, ("", guess), ("a", (False,) * 4), guess == (True, False, False, False))

    def test_by_hand(self):
        for saying in small_sayings() + some_sayings(40, bonds=3):
            bonds = bonds_in(saying)
            for now, then in product(product(["a", "b"], guesses_by_hand(bonds)), repeat=2):
                self.need_on(bonds, now, then, fits(bonds, now, then))


class PromisesTest(unittest.TestCase):
    def test_none_alone(self):
        for saying in [YES, A, ("not", A), ("and", A, B), ("or", A, B), ("next", A), ("next", ("next", A))]:
            self.assertEqual(promises_of(saying), [None])

    def test_none_first_and_tills_and_alwayses_behind_it(self):
        self.assertEqual(promises_of(("till", A, B)), [None, ("till", A, B)])
        self.assertEqual(promises_of(("always", A)), [None, ("always", A)])
        self.assertEqual(promises_of(("next", ("always", ("next", ("till", A, B))))),
                         [None, ("till", A, B), ("always", ("next", ("till", A, B)))])

    def test_an_again_among_them(self):
        self.assertEqual(promises_of(("again", A)), [None, YET, EVER])
        self.assertEqual(promises_of(("and", ("next", A), ("or", ("till", A, B), ("again", A)))),
                         [None, ("till", A, B), YET, EVER])

    def test_they_stand_as_in_the_row_of_bonds(self):
        for saying in small_sayings() + some_sayings(200):
            self.assertEqual(promises_of(saying), promises_by_hand(bonds_in(saying)))

    def test_a_new_list_each_time(self):
        first, second = promises_of(("again", A)), promises_of(("again", A))
        first.clear()
        self.assertEqual(second, [None, YET, EVER])
        self.assertEqual(promises_of(("again", A)), second)


class IsMetTest(unittest.TestCase):
    def need_met(self, promise, mark, bonds, guess, truth):
        self.assertIs(is_met(promise, mark, bonds, guess), truth, (promise, mark, bonds, guess))

    def test_none(self):
        for mark in MARKS:
            self.need_met(None, mark, [], (), True)
            for truth in (True, False):
                self.need_met(None, mark, [("till", A, B)], (truth,), True)

    def test_a_till(self):
        till = ("till", A, B)
        for mark in MARKS:
            self.need_met(till, mark, [till], (False,), True)
            self.need_met(till, mark, [till], (True,), mark == "b")

    def test_an_always(self):
        always = ("always", A)
        for mark in MARKS:
            self.need_met(always, mark, [always], (True,), True)
            self.need_met(always, mark, [always], (False,), mark != "a")

    def test_what_stands_within_is_told_by_the_guess(self):
        till, always = ("till", A, ("next", B)), ("always", ("next", B))
        for inner, now in product([True, False], repeat=2):
            self.need_met(till, "b", [("next", B), till], (inner, now), inner or not now)
            self.need_met(always, "b", [("next", B), always], (inner, now), now or not inner)

    def test_those_of_an_again(self):
        for yet, ever in product([True, False], repeat=2):
            for mark in MARKS:
                self.need_met(YET, mark, [YET, EVER], (yet, ever), not yet or mark == "a")
                self.need_met(EVER, mark, [YET, EVER], (yet, ever), ever or not yet)

    def test_by_hand(self):
        for saying in small_sayings() + some_sayings(60):
            bonds = bonds_in(saying)
            for promise in promises_by_hand(bonds):
                for mark, guess in product(MARKS[:4], guesses_by_hand(bonds)):
                    self.need_met(promise, mark, bonds, guess, met(promise, mark, bonds, guess))


class RightGuessesTest(unittest.TestCase):
    """The end of point [6], which ties guesses to what sayings mean."""

    RUNS = [([], ["a"]), ([], ["b"]), (["a"], [""]), (["b"], ["a"]), ([], ["a", "b"]), (["a"], ["b", "a"]),
            ([], ["a", "", "b"]), (["a", "a"], ["b"])]

    def go_on(self, bonds, marks, guesses, back):
        places = list(zip(marks, guesses))
        return all(goes_on(bonds, now, then) for now, then in zip(places, places[1:] + [places[back]]))

    def are_met(self, saying, marks, guesses, back):
        bonds = bonds_in(saying)
        return all(any(is_met(promise, mark, bonds, guess) for mark, guess in list(zip(marks, guesses))[back:])
                   for promise in promises_of(saying))

    def right_guesses(self, bonds, way, ring):
        return list(zip(*[row_of(bond, way, ring) for bond in bonds])) if bonds else [()] * len(way + ring)

    def test_right_guesses_go_on_and_meet_each_promise(self):
        for saying in small_sayings() + some_sayings(150):
            bonds = bonds_in(saying)
            for way, ring in self.RUNS:
                guesses = self.right_guesses(bonds, way, ring)
                self.assertTrue(self.go_on(bonds, way + ring, guesses, len(way)), (saying, way, ring))
                self.assertTrue(self.are_met(saying, way + ring, guesses, len(way)), (saying, way, ring))
                so = [is_so(saying, mark, bonds, guess) for mark, guess in zip(way + ring, guesses)]
                self.assertEqual(so, row_of(saying, way, ring))

    def test_no_other_guesses_do(self):
        for saying in EACH_KIND + [("next", ("till", A, B)), ("not", ("always", ("next", A)))]:
            bonds = bonds_in(saying)
            for way, ring in self.RUNS:
                right = self.right_guesses(bonds, way, ring)
                for guesses in product(all_guesses(bonds), repeat=len(way + ring)):
                    fine = (self.go_on(bonds, way + ring, guesses, len(way))
                            and self.are_met(saying, way + ring, guesses, len(way)))
                    self.assertEqual(fine, list(guesses) == right, (saying, way, ring, guesses))


class OwnershipTest(unittest.TestCase):
    def test_what_is_handed_in_stays(self):
        saying = ("and", ("next", B), ("again", A))
        bonds = bonds_in(saying)
        for guess in all_guesses(bonds):
            is_so(saying, "a", bonds, guess)
            goes_on(bonds, ("a", guess), ("b", guess))
            for promise in promises_of(saying):
                is_met(promise, "a", bonds, guess)
        self.assertEqual(bonds, [("next", B), YET, EVER])

    def test_the_bonds_that_are_handed_in_count(self):
        self.assertIs(is_so(A, "a", [], ()), True)
        self.assertIs(is_so(YET, "b", [YET, EVER], (True, False)), True)
        self.assertIs(is_so(YET, "b", [("next", B), YET, EVER], (True, False, False)), False)


class InterfaceTest(unittest.TestCase):
    def test_it_is_defined_in_its_file(self):
        for function in (all_guesses, is_so, goes_on, promises_of, is_met):
            self.assertEqual(function.__module__, "everafter.guesses")

    def test_names_of_the_arguments(self):
        self.assertEqual(all_guesses(bonds=[]), [()])
        self.assertIs(is_so(saying=A, mark="a", bonds=[], guess=()), True)
        self.assertIs(goes_on(bonds=[], now=("a", ()), then=("", ())), True)
        self.assertEqual(promises_of(saying=A), [None])
        self.assertIs(is_met(promise=None, mark="a", bonds=[], guess=()), True)


if __name__ == "__main__":
    unittest.main()
