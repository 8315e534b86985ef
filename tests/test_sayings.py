import unittest
from itertools import product

from everafter.errors import BadSaying, TooMany, WalkError
from everafter.sayings import bonds_in, is_saying, need_saying
from odd_things import odd_things

YES = ("yes",)
A = ("mark", "a")
B = ("mark", "b")
ONES = ["not", "next", "always", "again"]
TWOS = ["and", "or", "till"]
EACH_KIND = [YES, A] + [(kind, A) for kind in ONES] + [(kind, A, B) for kind in TWOS]


def wrapped(saying, kinds):
    """The saying within one saying of each of these kinds, the last one outermost."""
    for kind in kinds:
        saying = (kind, saying) if kind in ONES else (kind, YES, saying)
    return saying


def stands_in(inner, saying):
    """Whether inner is a part of the saying, however deep, and not itself."""
    return any(part == inner or stands_in(inner, part) for part in saying[1:] if isinstance(part, tuple))


class IsSayingTest(unittest.TestCase):
    def need_true(self, thing):
        self.assertIs(is_saying(thing), True, thing)

    def need_false(self, thing):
        self.assertIs(is_saying(thing), False)

    def test_each_of_the_nine_kinds(self):
        self.assertEqual(len(EACH_KIND), 9)
        for saying in EACH_KIND:
            self.need_true(saying)

    def test_each_kind_within_each_kind(self):
        for inner in EACH_KIND:
            for kind in ONES:
                self.need_true((kind, inner))
            for kind in TWOS:
                self.need_true((kind, inner, YES))
                self.need_true((kind, YES, inner))

    def test_marks(self):
        for mark in ["a", "z", "az", "abcdef", "zzzzzz", "yes", "mark"]:
            self.need_true(("mark", mark))
        for mark in ["", "abcdefg", "A", "aB", "a b", " a", "a ", "a\n", "1", "a1", "`", "{", "a-b", "~"]:
            self.need_false(("mark", mark))
        for thing in odd_things() + [0, 1, [], YES, ["a"]]:
            self.need_false(("mark", thing))

    def test_wrong_numbers_of_parts(self):
        self.need_false(("mark",))
        self.need_false(("mark", "a", "b"))
        self.need_false(("yes", YES))
        for kind in ONES:
            self.need_false((kind,))
            self.need_false((kind, A, A))
        for kind in TWOS:
            self.need_false((kind,))
            self.need_false((kind, A))
            self.need_false((kind, A, A, A))

    def test_wrong_words(self):
        for word in ["", "Yes", "YES", "yes ", " yes", "yes\n", "no", "maybe", "if", "until", "never", "a"]:
            self.need_false((word,))
            self.need_false((word, A))
            self.need_false((word, A, A))

    def test_odd_things_in_place_of_the_word(self):
        for thing in odd_things() + [0, 1, [], ["yes"], ("yes",)]:
            self.need_false((thing,))
            self.need_false((thing, A))
            self.need_false((thing, "a"))
            self.need_false((thing, A, A))

    def test_odd_things_at_the_top(self):
        for thing in odd_things() + [0, 1, "", "yes", "mark", [], ["yes"], ["mark", "a"], ["not", A], {"mark": "a"}]:
            self.need_false(thing)

    def test_odd_things_deep_within(self):
        bad = odd_things() + [0, 1, "", "yes", "a", [], ["yes"], ["mark", "a"], ("mark", ""), ("mark", "A"), ("not",)]
        for thing in bad:
            for kind in ONES:
                self.need_false((kind, thing))
                self.need_false(wrapped((kind, thing), ["not", "or", "next"]))
            for kind in TWOS:
                self.need_false((kind, thing, YES))
                self.need_false((kind, YES, thing))
                self.need_false(wrapped((kind, thing, A), ["again", "till", "always"]))
                self.need_false(wrapped((kind, A, thing), ["not", "and", "next"]))

    def test_lists_for_tuples(self):
        for saying in EACH_KIND:
            self.need_false(list(saying))
            self.need_false(("not", list(saying)))
            self.need_false(("or", YES, ("not", list(saying))))

    def test_five_within_one_another_and_six(self):
        for kinds in product(ONES + TWOS, repeat=4):
            for inmost in (YES, A):
                self.need_true(wrapped(inmost, kinds))
        for kind in ONES + TWOS:
            for inmost in EACH_KIND[2:]:
                self.need_false(wrapped(inmost, [kind] * 4))
            for inmost in (YES, A):
                self.need_false(wrapped(inmost, [kind] * 5))
                self.need_false(wrapped(inmost, [kind] * 80))

    def test_depth_of_either_side_counts(self):
        four = wrapped(A, ["not"] * 3)
        five = wrapped(A, ["not"] * 4)
        for kind in TWOS:
            self.need_true((kind, four, four))
            self.need_false((kind, five, A))
            self.need_false((kind, A, five))
            self.need_false((kind, five, five))

    def test_as_many_as_can_stand_in_one(self):
        saying = A
        for _ in range(4):
            saying = ("or", saying, saying)
        self.need_true(saying)
        for _ in range(60):
            saying = ("or", saying, saying)
        self.need_false(saying)


class BondsInTest(unittest.TestCase):
    def need_row(self, saying, bonds):
        """The row has these bonds, each once, each behind those that stand in it."""
        row = bonds_in(saying)
        self.assertIs(type(row), list)
        self.assertEqual(sorted(map(repr, row)), sorted(map(repr, bonds)))
        for at, bond in enumerate(row):
            for later in row[at:]:
                self.assertFalse(stands_in(later, bond), (later, bond))

    def test_kinds_that_bring_none(self):
        for saying in [YES, A, ("not", A), ("and", A, B), ("or", A, B), ("not", YES), ("mark", "next")]:
            self.assertEqual(bonds_in(saying), [])

    def test_kinds_that_are_one(self):
        for saying in [("next", A), ("till", A, B), ("always", A), ("next", YES), ("till", YES, YES)]:
            self.assertEqual(bonds_in(saying), [saying])

    def test_an_again_brings_two(self):
        later = ("till", YES, A)
        self.assertEqual(bonds_in(("again", A)), [later, ("always", later)])

    def test_an_again_itself_is_none(self):
        self.assertNotIn(("again", A), bonds_in(("not", ("again", A))))

    def test_what_stands_in_it_comes_first(self):
        one = ("next", A)
        two = ("till", one, B)
        three = ("always", two)
        four = ("next", three)
        self.assertEqual(bonds_in(four), [one, two, three, four])
        self.assertEqual(bonds_in(("till", B, one)), [one, ("till", B, one)])

    def test_both_sides_are_searched(self):
        one, two = ("next", A), ("always", B)
        for kind in ("and", "or"):
            self.need_row((kind, one, two), [one, two])
        self.need_row(("till", one, two), [one, two, ("till", one, two)])
        self.need_row(("not", ("and", ("not", one), ("or", A, two))), [one, two])

    def test_an_again_over_bonds(self):
        one = ("next", A)
        later = ("till", YES, one)
        self.assertEqual(bonds_in(("again", one)), [one, later, ("always", later)])
        inner = ("till", YES, A)
        outer = ("till", YES, ("again", A))
        self.need_row(("again", ("again", A)), [inner, ("always", inner), outer, ("always", outer)])
        self.assertEqual(bonds_in(("next", ("again", A))), [inner, ("always", inner), ("next", ("again", A))])

    def test_the_same_bond_twice_stands_once(self):
        one = ("next", A)
        self.assertEqual(bonds_in(("and", one, one)), [one])
        self.assertEqual(bonds_in(("or", one, ("not", ("next", ("mark", "a"))))), [one])
        self.assertEqual(bonds_in(("till", one, one)), [one, ("till", one, one)])
        self.assertEqual(bonds_in(("and", ("always", one), one)), [one, ("always", one)])
        self.assertEqual(bonds_in(("and", one, ("always", one))), [one, ("always", one)])

    def test_an_again_and_its_own_bonds_written_out(self):
        later = ("till", YES, A)
        both = [later, ("always", later)]
        self.assertEqual(bonds_in(("and", ("again", A), ("again", A))), both)
        self.assertEqual(bonds_in(("and", ("again", A), later)), both)
        self.assertEqual(bonds_in(("and", later, ("again", A))), both)
        self.assertEqual(bonds_in(("and", ("always", later), ("again", A))), both)
        self.need_row(("or", ("again", A), ("again", B)),
                      both + [("till", YES, B), ("always", ("till", YES, B))])

    def test_bonds_that_differ_in_little_are_two(self):
        self.need_row(("and", ("next", A), ("next", B)), [("next", A), ("next", B)])
        self.need_row(("and", ("till", A, B), ("till", B, A)), [("till", A, B), ("till", B, A)])

    def test_the_row_of_every_saying_of_a_few_parts(self):
        level = [YES, A]
        for _ in range(2):
            level = level + [(kind, s) for kind in ONES for s in level] + [(k, s, A) for k in TWOS for s in level]
        for saying in level:
            self.need_row(saying, self.bonds_by_hand(saying))

    def bonds_by_hand(self, saying):
        bonds = {}
        if saying[0] in ("next", "till", "always"):
            bonds[saying] = True
        if saying[0] == "again":
            bonds[("till", YES, saying[1])] = True
            bonds[("always", ("till", YES, saying[1]))] = True
        for part in saying[1:]:
            if isinstance(part, tuple):
                bonds.update(dict.fromkeys(self.bonds_by_hand(part), True))
        return list(bonds)

    def test_more_than_four_are_told(self):
        saying = ("and", ("again", ("again", A)), ("next", A))
        self.assertEqual(len(bonds_in(saying)), 5)

    def test_deeper_than_five_raises_nothing(self):
        saying = wrapped(A, ["next"] * 8)
        self.assertEqual(len(bonds_in(saying)), 8)

    def test_a_new_list_each_time(self):
        for saying in [("next", A), ("again", A), A]:
            first = bonds_in(saying)
            told = list(first)
            second = bonds_in(saying)
            self.assertIsNot(first, second)
            first.clear()
            first.append("spoilt")
            self.assertEqual(second, told)
            self.assertEqual(bonds_in(saying), told)


class NeedSayingTest(unittest.TestCase):
    def test_a_saying_is_told(self):
        for saying in EACH_KIND:
            self.assertEqual(need_saying(saying), saying)

    def test_no_saying_is_refused(self):
        bad = odd_things() + [0, 1, "", "yes", [], ["yes"], ["mark", "a"], ("mark", ""), ("not", ["yes"]), ("next",)]
        for thing in bad:
            for wrong in (thing, ("not", thing), ("till", YES, ("and", thing, YES))):
                with self.assertRaises(BadSaying) as caught:
                    need_saying(wrong)
                self.assertIs(type(caught.exception), BadSaying)

    def test_too_deep_is_refused(self):
        self.assertEqual(need_saying(wrapped(A, ["not"] * 4)), wrapped(A, ["not"] * 4))
        with self.assertRaises(BadSaying):
            need_saying(wrapped(A, ["not"] * 5))

    def test_four_bonds_are_taken_and_five_are_not(self):
        one, two = ("next", A), ("next", B)
        four = [wrapped(A, ["next"] * 4), ("and", ("again", A), ("again", B)), ("again", ("again", A)),
                ("and", ("and", one, two), ("and", ("always", A), ("always", B))),
                ("and", ("and", one, one), ("and", ("again", A), ("next", B)))]
        for saying in four:
            self.assertEqual(len(bonds_in(saying)), 4)
            self.assertEqual(need_saying(saying), saying)
            five = ("and", saying, ("till", A, B))
            if is_saying(five):
                self.need_too_many(five)
        self.need_too_many(("or", ("and", one, two), ("and", ("again", A), ("always", B))))

    def need_too_many(self, saying):
        self.assertGreater(len(bonds_in(saying)), 4)
        with self.assertRaises(TooMany) as caught:
            need_saying(saying)
        self.assertIs(type(caught.exception), TooMany)

    def test_an_again_counts_for_two(self):
        self.need_too_many(("till", ("again", A), ("again", B)))
        self.need_too_many(("next", ("again", ("again", A))))

    def test_the_same_bond_counts_once(self):
        later = ("till", YES, A)
        saying = ("and", ("and", ("again", A), later), ("and", ("always", later), ("again", B)))
        self.assertEqual(need_saying(saying), saying)

    def test_no_saying_is_refused_as_such_though_it_holds_many_bonds(self):
        many = ("and", ("again", ("again", A)), ("next", A))
        self.need_too_many(many)
        for wrong in [("and", many, ("mark", "")), ("and", many, None), list(many), ("or", many),
                      ("next", ("next", ("next", many))), wrapped(A, ["next"] * 5)]:
            with self.assertRaises(BadSaying):
                need_saying(wrong)

    def test_both_refusals_are_walk_errors(self):
        for wrong in [None, ("next", ("again", ("again", A)))]:
            with self.assertRaises(WalkError):
                need_saying(wrong)


class SayingsInterfaceTest(unittest.TestCase):
    def test_each_function_is_defined_in_its_file(self):
        for function in (is_saying, bonds_in, need_saying):
            self.assertEqual(function.__module__, "everafter.sayings")

    def test_names_of_the_arguments(self):
        self.assertIs(is_saying(thing=YES), True)
        self.assertEqual(bonds_in(saying=YES), [])
        self.assertEqual(need_saying(thing=YES), YES)

    def test_what_is_handed_in_stays_as_it_was(self):
        inner = ["mark", "a"]
        wrong = ["and", inner, {"yes": inner}]
        is_saying(wrong)
        with self.assertRaises(BadSaying):
            need_saying(("not", wrong))
        self.assertEqual(wrong, ["and", ["mark", "a"], {"yes": ["mark", "a"]}])


if __name__ == "__main__":
    unittest.main()
