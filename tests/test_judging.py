import os
import subprocess
import sys
import time
import unittest
from itertools import product

from by_hand import A, B, C, EACH_KIND, ONES, YES, Dice, small_sayings, some_parts, some_saying
from everafter.errors import BadSaying, TooMany, WalkError
from everafter.judging import judged
from everafter.machines import Machine, marks_along
from everafter.meaning import holds
from everafter.sayings import bonds_in
from everafter.webs import Web
from judging_case import JudgingCase, all_machines, renumbered
from odd_things import odd_things

NO = ("not", YES)
FIVE_BONDS = ("and", ("again", A), ("and", ("again", B), ("next", A)))

ONLY_A = (["a"], [[0]], [0])
ONLY_B = (["b"], [[0]], [0])
NAMELESS = ([""], [[0]], [0])
TURNS = (["a", "b"], [[1], [0]], [0])  # a and b by turns
MAY_STAY = (["a", "b"], [[0, 1], [0]], [0])  # any number of a between two b, perhaps without end
MAY_LEAVE = (["a", "b"], [[0, 1], [1]], [0])  # a for some time or for ever, then b for ever
FREE = (["a", "b", ""], [[0, 1, 2], [0, 1, 2], [0, 1, 2]], [0, 1, 2])
AWAY = (["a", "b"], [[0], [1, 0]], [0])  # nothing leads to b
SOME = [ONLY_A, ONLY_B, NAMELESS, TURNS, MAY_STAY, MAY_LEAVE, FREE, AWAY, (["c", "a"], [[1], [1, 0]], [1, 0]),
        (["a", "b", "c"], [[1], [2], [0]], [0])]


def judgeable(seed, many, room=5):
    """Sayings of at most four bonds."""
    dice, row = Dice(seed), []
    while len(row) < many:
        saying = some_saying(dice, room)
        if len(bonds_in(saying)) <= 4:
            row.append(saying)
    return row


def only_walk(parts):
    """The way and the ring of a machine that has only one walk."""
    _, ways, (place,) = parts
    row = []
    while place not in row:
        row.append(place)
        (place,) = ways[place]
    return row[:row.index(place)], row[row.index(place):]


class EachKindTest(JudgingCase):
    def test_mark(self):
        self.need_keeps(MAY_LEAVE, A)
        self.need_breaks(MAY_LEAVE, B)
        self.need_breaks(FREE, A)
        self.need_breaks((["a", "b"], [[0], [1]], [0, 1]), A)
        self.need_keeps((["a", "a", "b"], [[2], [2], [2]], [0, 1]), A)
        self.need_breaks(NAMELESS, A)

    def test_yes(self):
        for parts in SOME:
            self.need_keeps(parts, YES)
            self.need_breaks(parts, NO)

    def test_not(self):
        self.need_keeps(ONLY_A, ("not", B))
        self.need_breaks(ONLY_A, ("not", A))
        self.need_keeps(NAMELESS, ("not", A))
        self.need_keeps(ONLY_A, ("not", ("not", A)))

    def test_and_and_or(self):
        self.need_keeps(TURNS, ("and", A, ("next", B)))
        self.need_breaks(TURNS, ("and", A, ("next", A)))
        self.need_breaks(TURNS, ("and", B, ("next", B)))
        self.need_keeps(TURNS, ("or", B, ("next", B)))
        self.need_keeps(TURNS, ("or", A, ("next", A)))
        self.need_breaks(TURNS, ("or", B, ("next", A)))
        self.need_breaks(FREE, ("or", A, B))
        self.need_keeps((["a", "b"], [[1], [0]], [0, 1]), ("or", A, B))

    def test_next(self):
        self.need_keeps(TURNS, ("next", B))
        self.need_breaks(TURNS, ("next", A))
        self.need_breaks(MAY_LEAVE, ("next", A))
        self.need_breaks(MAY_LEAVE, ("next", B))
        self.need_keeps(MAY_LEAVE, ("next", ("or", A, B)))
        self.need_keeps(TURNS, ("next", ("next", ("next", B))))

    def test_till(self):
        self.need_keeps(TURNS, ("till", A, B))
        self.need_breaks(MAY_LEAVE, ("till", A, B))
        self.need_breaks(TURNS, ("till", B, C))
        self.need_keeps((["a", "a", "b"], [[1], [2], [0]], [0, 1, 2]), ("till", A, B))
        self.need_breaks((["a", "c", "b"], [[1], [2], [0]], [0]), ("till", A, B))
        self.need_keeps(ONLY_B, ("till", NO, B))
        self.need_breaks(ONLY_A, ("till", A, B))

    def test_always(self):
        self.need_keeps(ONLY_A, ("always", A))
        self.need_keeps(AWAY, ("always", A))
        self.need_breaks(MAY_LEAVE, ("always", A))
        self.need_breaks((["a"] * 11 + ["b"], [[min(place + 1, 11)] for place in range(12)], [0]), ("always", A))
        self.need_keeps(TURNS, ("always", ("or", A, ("next", A))))

    def test_again(self):
        self.need_keeps(TURNS, ("again", B))
        self.need_keeps(MAY_STAY, ("again", A))
        self.need_breaks(MAY_STAY, ("again", B))
        self.need_breaks(MAY_LEAVE, ("again", A))
        self.need_breaks(MAY_LEAVE, ("again", B))
        self.need_keeps(MAY_LEAVE, ("or", ("again", A), ("again", B)))
        self.need_breaks((["b", "a"], [[1], [1]], [0]), ("again", B))

    def test_what_comes_ever_again(self):
        self.need_breaks(MAY_STAY, ("or", ("again", B), ("not", ("again", A))))
        self.need_keeps(TURNS, ("and", ("again", A), ("again", B)))
        self.need_keeps(TURNS, ("again", ("and", A, ("next", B))))
        self.need_breaks(MAY_LEAVE, ("and", ("again", A), ("not", ("again", B))))
        self.need_keeps(MAY_LEAVE, ("not", ("and", ("again", A), ("again", B))))
        self.need_keeps(TURNS, ("again", ("again", A)))
        self.need_breaks(FREE, ("or", ("again", A), ("again", B)))
        self.need_keeps(FREE, ("or", ("again", A), ("not", ("again", A))))
        self.need_keeps(MAY_STAY, ("or", ("not", ("again", B)), ("again", A)))
        self.need_breaks(MAY_STAY, ("not", ("always", A)))
        self.need_keeps(MAY_STAY, ("till", YES, A))
        self.need_breaks(MAY_STAY, ("till", YES, ("always", A)))
        self.need_keeps(MAY_STAY, ("or", ("again", B), ("till", YES, ("always", A))))

    def test_a_ring_that_must_meet_several_promises(self):
        daisy = (["", "a", "b", "c"], [[1, 2, 3], [0], [0], [0]], [0])
        self.need_breaks(daisy, ("not", ("and", ("again", A), ("again", B))))
        self.need_breaks(daisy, ("or", ("not", ("again", A)), ("not", ("again", B))))
        self.need_breaks(daisy, ("not", ("and", ("again", ("next", A)), ("till", YES, C))))
        self.need_keeps((["", "a", "b"], [[1, 2], [1], [2]], [0]), ("not", ("and", ("again", A), ("again", B))))

    def test_the_word_turns_on_one_thread(self):
        chain = [[min(place + 1, 11)] for place in range(12)]
        marks = ["a"] * 11 + ["b"]
        self.need_keeps((marks, chain, [0]), ("till", A, B))
        self.need_breaks((marks, chain[:5] + [[6, 5]] + chain[6:], [0]), ("till", A, B))
        self.need_keeps((marks, chain, [0]), ("till", YES, ("always", B)))
        self.need_breaks((marks, chain[:11] + [[11, 0]], [0]), ("till", YES, ("always", B)))
        self.need_keeps((marks, chain[:11] + [[11, 0]], [0]), ("again", B))


class JudgementTest(JudgingCase):
    """Each judgement is held against the document by word(); a machine with one walk tells besides which it must be."""

    def test_small_sayings_of_some_machines(self):
        words = [self.word(parts, saying) for parts in SOME for saying in small_sayings()]
        self.assertGreater(min(words.count("keeps"), words.count("breaks")), 200)

    def test_all_machines_of_one_and_two_places(self):
        for parts in [*all_machines(1, ["a", ""]), *all_machines(2, ["a", "b"])]:
            for saying in EACH_KIND + [("again", ("not", A)), ("not", ("again", B)), ("always", ("next", A))]:
                self.word(parts, saying)

    def test_sayings_of_five_within_one_another(self):
        dice, words = Dice(6), []
        for saying in judgeable(5, 700):
            words.append(self.word(some_parts(dice, 5), saying))
        self.assertGreater(min(words.count("keeps"), words.count("breaks")), 100)

    def test_larger_machines(self):
        dice = Dice(7)
        for saying in judgeable(8, 40):
            self.word(some_parts(dice, 12), saying)

    def test_sayings_about_what_comes_ever_again(self):
        one, other = ("again", A), ("again", B)
        sayings = [one, ("not", one), ("or", ("not", one), other), ("and", one, other),
                   ("again", ("and", A, ("next", B))), ("again", one), ("not", ("again", ("not", one))),
                   ("or", one, ("till", A, B)), ("and", ("not", one), ("always", B)),
                   ("next", ("or", one, ("not", B)))]
        dice = Dice(9)
        for _ in range(60):
            parts = some_parts(dice, 5, ("a", "b", ""))
            for saying in sayings:
                self.word(parts, saying)

    def test_a_machine_with_one_walk(self):
        dice = Dice(10)
        for saying in judgeable(11, 600):
            many = 1 + dice.below(5)
            parts = ([dice.one_of(["a", "b", "c", ""]) for _ in range(many)],
                     [[dice.below(many)] for _ in range(many)], [dice.below(many)])
            way, ring = only_walk(parts)
            kept = holds(saying, *marks_along(Machine(*parts), way, ring))
            self.assertEqual(self.word(parts, saying), "keeps" if kept else "breaks")

    def test_a_saying_and_its_contrary(self):
        dice = Dice(12)
        for saying in judgeable(13, 500, room=4):
            parts = some_parts(dice, 4)
            self.assertIn("breaks", [self.word(parts, saying), self.word(parts, ("not", saying))])
        self.assertEqual([self.word(FREE, A), self.word(FREE, ("not", A))], ["breaks", "breaks"])
        self.assertEqual([self.word(ONLY_A, A), self.word(ONLY_A, ("not", A))], ["keeps", "breaks"])

    def test_no_rows_where_no_knot_is(self):
        self.assertEqual(judged(Machine(*MAY_LEAVE), A), ("keeps", []))
        self.assertEqual(judged(Machine(*FREE), YES), ("keeps", []))

    def test_some_told_whole(self):
        self.assertEqual(judged(Machine(*ONLY_A), B), ("breaks", [], [0]))
        self.assertEqual(judged(Machine(*ONLY_A), ("always", B)), ("breaks", [], [0]))
        told = judged(Machine(*ONLY_A), ("next", A))
        self.assertEqual((told[0], [row[:2] for row in told[1]]), ("keeps", [(0, (False,))]))
        told = judged(Machine(*TURNS), ("again", A))
        self.assertEqual((told[0], sorted(row[:2] for row in told[1])),
                         ("keeps", sorted(Web(Machine(*TURNS), ("again", A)).knots)))


class SameWordTest(JudgingCase):
    def test_the_same_saying_said_otherwise(self):
        s, t, u = A, ("or", B, C), ("or", B, ("next", A))
        pairs = [
            (("again", s), ("always", ("till", YES, s))), (("again", s), ("next", ("again", s))),
            (("again", s), ("not", ("till", YES, ("always", ("not", s))))), (("again", ("again", s)), ("again", s)),
            (("till", YES, ("again", s)), ("again", s)), (("again", ("or", A, B)), ("or", ("again", A), ("again", B))),
            (("always", s), ("not", ("till", YES, ("not", s)))), (("always", ("always", u)), ("always", u)),
            (("always", t), ("and", t, ("next", ("always", t)))),
            (("till", s, B), ("or", B, ("and", s, ("next", ("till", s, B))))),
            (("not", ("next", s)), ("next", ("not", s))), (("next", ("and", A, B)), ("and", ("next", A), ("next", B))),
            (("or", s, t), ("not", ("and", ("not", s), ("not", t)))), (("and", s, t), ("and", t, s)),
            (("or", s, ("next", B)), ("not", ("and", ("not", s), ("not", ("next", B))))), (("not", ("not", u)), u),
        ]
        dice, words = Dice(14), []
        for parts in SOME + [some_parts(dice, 4) for _ in range(25)]:
            for one, other in pairs:
                words.append(self.word(parts, one))
                self.assertEqual(self.word(parts, other), words[-1], (parts, one, other))
        self.assertGreater(min(words.count("keeps"), words.count("breaks")), 50)

    def test_places_numbered_otherwise(self):
        dice = Dice(15)
        for saying in judgeable(16, 300):
            parts = some_parts(dice, 6)
            left, numbers = list(range(len(parts[0]))), []
            while left:
                numbers.append(left.pop(dice.below(len(left))))
            self.assertEqual(self.word(renumbered(parts, numbers), saying), self.word(parts, saying))

    def test_a_place_that_is_not_come_to(self):
        for saying in small_sayings():
            for marks, ways, begins in SOME:
                more = (marks + ["c"], ways + [[len(marks), 0]], begins)
                self.assertEqual(judged(Machine(*more), saying), judged(Machine(marks, ways, begins), saying))

    def test_fewer_beginnings_break_nothing_more(self):
        for saying in small_sayings():
            words = [self.word(FREE[:2] + (begins,), saying) for begins in ([0], [1], [2])]
            whole = "keeps" if words == ["keeps"] * 3 else "breaks"
            self.assertEqual(self.word(FREE, saying), whole)


class RefusalTest(unittest.TestCase):
    def need_refused(self, thing, kind):
        with self.assertRaises(kind) as caught:
            judged(Machine(*TURNS), thing)
        self.assertIs(type(caught.exception), kind)
        self.assertIsInstance(caught.exception, WalkError)

    def test_what_is_no_saying(self):
        for thing in odd_things() + [["yes"], ("mark", ""), ("not",), ("again", ["yes"]), ("or", FIVE_BONDS)]:
            self.need_refused(thing, BadSaying)
            self.need_refused(("not", thing), BadSaying)
            self.need_refused(("and", FIVE_BONDS, thing), BadSaying)

    def test_six_within_one_another(self):
        for kind in ONES:
            saying = YES
            for _ in range(5):
                saying = (kind, saying)
            self.need_refused(saying, BadSaying)
        self.need_refused(("next", ("not", ("not", ("not", ("not", A))))), BadSaying)
        self.assertEqual(judged(Machine(*TURNS), ("not", ("not", ("not", ("not", A))))), ("keeps", []))

    def test_too_many_bonds(self):
        self.need_refused(FIVE_BONDS, TooMany)
        self.need_refused(("not", FIVE_BONDS), TooMany)
        self.need_refused(("till", ("again", A), ("again", B)), TooMany)


class AskedAgainTest(JudgingCase):
    SAYINGS = [A, B, ("always", A), ("again", B), ("or", ("again", A), ("again", B)), ("till", A, B), ("next", B)]

    def test_the_same_each_time_though_what_was_told_is_changed(self):
        for parts, saying in product(SOME, self.SAYINGS):
            machine = Machine(*parts)
            told = judged(machine, saying)
            copy = (told[0],) + tuple(list(row) for row in told[1:])
            for row in told[1:]:
                row.reverse()
                row.append("spoilt")
            again = judged(machine, saying)
            self.assertEqual(again, copy)
            for row in again[1:]:
                row.clear()
            self.assertEqual(judged(Machine(*parts), saying), copy)

    def test_the_same_whatever_was_asked_between(self):
        asked = list(product(SOME, self.SAYINGS))
        machines = [Machine(*parts) for parts, _ in asked]
        told = [judged(machine, saying) for machine, (_, saying) in zip(machines, asked)]
        for at in reversed(range(len(asked))):
            with self.assertRaises(TooMany):
                judged(machines[at], FIVE_BONDS)
            self.assertEqual(judged(machines[at], asked[at][1]), told[at])
        later = judged(machines[0], self.SAYINGS[1])
        self.assertEqual(told, [judged(machine, saying) for machine, (_, saying) in zip(machines, asked)])
        self.assertEqual(later, told[1])

    def test_the_same_in_another_process(self):
        code = ("from everafter.judging import judged\nfrom everafter.machines import Machine\n"
                f"print([judged(Machine(*parts), saying) for parts in {SOME!r} for saying in {self.SAYINGS!r}])")
        here = [judged(Machine(*parts), saying) for parts, saying in product(SOME, self.SAYINGS)]
        top = os.path.dirname(os.path.dirname(os.path.abspath(__file__)))
        for seed in ("1", "2"):
            env = dict(os.environ, PYTHONHASHSEED=seed, PYTHONPATH=top, PYTHONDONTWRITEBYTECODE="1")
            told = subprocess.run([sys.executable, "-c", code], env=env, capture_output=True, text=True, check=True)
            self.assertEqual(told.stdout.strip(), repr(here))

    def test_the_way_and_the_ring_are_two_lists(self):
        told = judged(Machine(*MAY_LEAVE), ("always", A))
        told[1].clear()
        self.assertNotEqual(told[2], [])
        told = judged(Machine(*ONLY_A), B)
        told[1].append(7)
        self.assertEqual(told[2], [0])

    def test_webs_that_are_changed_change_nothing(self):
        machine = Machine(*TURNS)
        told = judged(machine, ("again", A))
        web = Web(machine, ("again", A))
        for ends in web.threads.values():
            ends.clear()
        web.knots.clear()
        web.promises.clear()
        web.bonds.clear()
        self.assertEqual(judged(machine, ("again", A)), told)

    def test_the_machine_is_not_changed(self):
        marks, ways, begins = ["a", "b"], [[1, 0], [0]], [1, 0]
        machine = Machine(marks, ways, begins)
        for saying in self.SAYINGS:
            for row in judged(machine, saying)[1:]:
                row.clear()
        self.assertEqual((marks, ways, begins), (["a", "b"], [[1, 0], [0]], [1, 0]))
        self.assertEqual([machine.mark(place) for place in (0, 1)], ["a", "b"])
        self.assertEqual([machine.leads(place) for place in (0, 1)], [[1, 0], [0]])
        self.assertEqual(machine.starts(), [1, 0])

    def test_two_machines_beside_one_another(self):
        one, other = Machine(*TURNS), Machine(*MAY_LEAVE)
        words = [judged(machine, ("again", A))[0] for machine in (one, other, one)]
        self.assertEqual(words, ["keeps", "breaks", "keeps"])


class SizesTest(JudgingCase):
    EVERYWHERE = (list("abcdabcdabcd"), [list(range(12)) for _ in range(12)], list(range(12)))
    AROUND = (list("abcdefghijkl"), [[(place + 1) % 12] for place in range(12)], [0])
    FORKED = (list("aabbccddabcd"), [[(place + 1) % 12, (place * 5 + 3) % 12] for place in range(12)], [0, 7])
    SAYINGS = [
        ("and", ("and", ("next", ("or", A, B)), ("next", ("and", A, B))), ("or", ("next", A), ("next", B))),
        ("or", ("again", A), ("not", ("again", B))), ("or", ("again", A), ("not", ("again", A))),
        ("and", ("again", ("or", A, ("not", A))), ("again", ("or", B, ("not", B)))),
        ("next", ("next", ("next", ("next", A)))), ("again", ("again", A)), ("not", ("again", ("again", B))),
        ("or", ("and", ("till", A, B), ("till", B, C)), ("and", ("always", A), ("always", C))),
        ("till", ("till", A, B), ("till", B, ("till", A, C))), ("always", ("till", YES, ("always", ("till", YES, A)))),
    ]

    def test_twelve_places_and_four_bonds_take_a_few_seconds_at_most(self):
        for parts, saying in product([self.EVERYWHERE, self.AROUND, self.FORKED], self.SAYINGS):
            machine = Machine(*parts)
            begun = time.process_time()
            judged(machine, saying)
            self.assertLess(time.process_time() - begun, 4)

    def test_they_are_judged_rightly(self):
        words = [self.word(parts, saying) for parts in (self.AROUND, self.FORKED) for saying in self.SAYINGS]
        self.assertEqual({*words}, {"keeps", "breaks"})
        self.need_keeps(self.EVERYWHERE, self.SAYINGS[3])
        self.need_breaks(self.EVERYWHERE, self.SAYINGS[1])


class InterfaceTest(unittest.TestCase):
    def test_it_is_defined_in_its_file(self):
        self.assertEqual(judged.__module__, "everafter.judging")

    def test_names_of_the_arguments(self):
        self.assertEqual(judged(machine=Machine(*ONLY_A), saying=A), ("keeps", []))


if __name__ == "__main__":
    unittest.main()
