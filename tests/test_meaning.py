import unittest
from itertools import product

from by_hand import A, B, C, EACH_KIND, ONES, TWOS, YES, Dice, row_by_hand, small_sayings, some_saying
from everafter.meaning import holds, row_of
from everafter.sayings import bonds_in

RUNS = [([], ["a"]), ([], ["b"]), ([], [""]), (["a"], ["b"]), (["b"], ["a"]), ([], ["a", "b"]), (["a"], ["a", "b"]),
        (["a", "", "b"], ["a"]), (["b", "b"], ["a", "", "a"]), (["c", "a"], ["b", "c", "a", "a"]),
        (["abcdef"], ["", "zz"])]


def bits(text):
    """A row of truths, written with 1 and 0."""
    return [letter == "1" for letter in text]


def run(text):
    """A way and a ring of marks of one letter, with a bar between them, and a dash for the empty mark."""
    way, ring = text.split("|")
    return [letter.replace("-", "") for letter in way], [letter.replace("-", "") for letter in ring]


class MeaningCase(unittest.TestCase):
    def need_row(self, saying, text, row):
        told = row_of(saying, *run(text))
        self.assertEqual(told, bits(row), (saying, text))
        self.assertIs(holds(saying, *run(text)), told[0])

    def need_by_hand(self, saying, way, ring):
        told = row_of(saying, way, ring)
        self.assertEqual(told, row_by_hand(saying, way, ring), (saying, way, ring))
        self.assertIs(holds(saying, way, ring), told[0], (saying, way, ring))
        self.assertTrue(all(type(truth) is bool for truth in told))


class EachKindTest(MeaningCase):
    def test_mark(self):
        self.need_row(A, "ab|ba-", "10010")
        self.need_row(A, "|a", "1")
        self.need_row(A, "|b", "0")
        self.need_row(("mark", "ab"), "a|b", "00")
        self.assertEqual(row_of(("mark", "ab"), ["ab", "a"], ["b", "abc", "ab"]), bits("10001"))

    def test_yes(self):
        self.need_row(YES, "ab|ba-", "11111")
        self.need_row(YES, "|-", "1")

    def test_not(self):
        self.need_row(("not", A), "ab|ba-", "01101")
        self.need_row(("not", YES), "a|b", "00")
        self.need_row(("not", ("not", A)), "ab|a", "101")

    def test_and_and_or(self):
        one, other = ("next", A), A
        self.need_row(one, "aab|ab-", "101001")
        self.need_row(other, "aab|ab-", "110100")
        self.need_row(("and", one, other), "aab|ab-", "100000")
        self.need_row(("or", one, other), "aab|ab-", "111101")
        self.need_row(("and", YES, A), "|ab", "10")
        self.need_row(("and", A, YES), "|ab", "10")
        self.need_row(("or", ("not", YES), A), "|ab", "10")
        self.need_row(("or", A, ("not", YES)), "|ab", "10")

    def test_next(self):
        self.need_row(("next", A), "ba|bba", "10010")
        self.need_row(("next", A), "b|a", "11")
        self.need_row(("next", B), "b|a", "00")
        self.need_row(("next", A), "|a", "1")
        self.need_row(("next", A), "|ab", "01")
        self.need_row(("next", ("next", A)), "|abb", "010")
        self.need_row(("next", A), "a|b", "00")

    def test_till(self):
        self.need_row(("till", A, B), "aab|c", "1110")
        self.need_row(("till", A, B), "aca|b", "0011")
        self.need_row(("till", A, B), "|a", "0")
        self.need_row(("till", A, B), "|b", "1")
        self.need_row(("till", A, B), "aa|a", "000")
        self.need_row(("till", A, B), "aa|ab", "1111")
        self.need_row(("till", A, B), "a|cba", "0010")
        self.need_row(("till", A, B), "|bcaa", "1011")

    def test_till_around_the_rings_end(self):
        self.need_row(("till", A, B), "|baaa", "1111")
        self.need_row(("till", A, B), "a|abca", "11101")
        self.need_row(("till", A, B), "|caaa", "0000")
        self.need_row(("till", A, B), "b|aaa", "1000")

    def test_a_till_whose_goal_is_here_needs_nothing_else(self):
        self.need_row(("till", ("not", YES), B), "cb|ab", "0101")
        self.need_row(("till", ("not", B), B), "cb|aa", "1100")

    def test_always(self):
        self.need_row(("always", A), "aba|a", "0011")
        self.need_row(("always", A), "aa|ab", "0000")
        self.need_row(("always", A), "|a", "1")
        self.need_row(("always", A), "b|aaa", "0111")
        self.need_row(("always", A), "a|aab", "0000")
        self.need_row(("always", A), "a|baa", "0000")
        self.need_row(("always", ("not", A)), "a|-b", "011")

    def test_again(self):
        self.need_row(("again", A), "b|ab", "111")
        self.need_row(("again", A), "aaa|b", "0000")
        self.need_row(("again", A), "bbb|bba", "111111")
        self.need_row(("again", A), "|a", "1")
        self.need_row(("again", A), "|b", "0")
        self.need_row(("again", ("and", A, ("next", B))), "ab|ba", "1111")
        self.need_row(("again", ("and", A, ("next", B))), "ab|a", "000")

    def test_deep_within_one_another(self):
        self.need_row(("always", ("or", ("not", A), ("next", ("till", A, B)))), "|aab", "111")
        self.need_row(("always", ("or", ("not", A), ("next", ("till", A, B)))), "ca|aac", "00000")
        self.need_row(("till", ("next", B), ("always", ("not", B))), "abb|a", "0001")
        self.need_row(("till", ("next", A), ("always", A)), "bca|a", "0111")
        self.need_row(("next", ("again", ("and", A, ("not", ("next", A))))), "|ab", "11")


class ByHandTest(MeaningCase):
    def test_each_kind_and_each_within_each(self):
        for saying in small_sayings():
            for way, ring in RUNS:
                self.need_by_hand(saying, way, ring)

    def test_each_kind_along_all_short_runs(self):
        rows = [list(row) for many in range(4) for row in product(["a", "b", ""], repeat=many)]
        for saying in EACH_KIND:
            for way in rows[:13]:
                for ring in rows[1:]:
                    self.need_by_hand(saying, way, ring)

    def test_sayings_of_five_within_one_another(self):
        dice = Dice(1)
        for _ in range(1500):
            way = [dice.one_of("abc-").replace("-", "") for _ in range(dice.below(4))]
            ring = [dice.one_of("abc-").replace("-", "") for _ in range(1 + dice.below(4))]
            self.need_by_hand(some_saying(dice, 5), way, ring)

    def test_more_than_four_bonds(self):
        saying = ("and", ("and", ("again", A), ("again", B)), ("or", ("always", C), ("next", ("till", A, C))))
        self.assertGreater(len(bonds_in(saying)), 4)
        for way, ring in RUNS:
            self.need_by_hand(saying, way, ring)

    def test_somewhat_beyond_the_limits(self):
        for kind in ONES:
            saying = A
            for _ in range(9):
                saying = (kind, saying)
            self.need_by_hand(saying, ["b", "b"], ["a", "b"])
        for kind in TWOS:
            saying = ("mark", "abcdefgh")
            for _ in range(7):
                saying = (kind, saying, B)
            self.need_by_hand(saying, ["b", "abcdefgh"], ["abcdefgh", "b", "a"])


class SameRunTest(MeaningCase):
    def sayings(self):
        dice = Dice(2)
        return small_sayings() + [some_saying(dice, 5) for _ in range(200)]

    def test_a_ring_told_twice(self):
        for saying in self.sayings():
            for way, ring in RUNS:
                row = row_of(saying, way, ring)
                self.assertEqual(row_of(saying, way, ring + ring), row + row[len(way):])
                self.assertEqual(row_of(saying, way, ring * 3), row + row[len(way):] * 2)

    def test_a_ring_turned_on_by_one(self):
        for saying in self.sayings():
            for way, ring in RUNS:
                row = row_of(saying, way, ring)
                turned = row_of(saying, way + ring[:1], ring[1:] + ring[:1])
                self.assertEqual(turned, row + row[len(way):len(way) + 1])
                self.assertIs(holds(saying, way + ring[:1], ring[1:] + ring[:1]), row[0])

    def test_a_run_without_its_first_moment(self):
        for saying in self.sayings():
            for way, ring in RUNS:
                if way:
                    self.assertEqual(row_of(saying, way[1:], ring), row_of(saying, way, ring)[1:])

    def test_sayings_that_are_the_same_said_otherwise(self):
        for s, t in product(EACH_KIND, EACH_KIND):
            pairs = [(("again", s), ("always", ("till", YES, s))),
                     (("always", s), ("not", ("till", YES, ("not", s)))),
                     (("or", s, t), ("not", ("and", ("not", s), ("not", t)))),
                     (("till", s, t), ("or", t, ("and", s, ("next", ("till", s, t))))),
                     (("always", s), ("and", s, ("next", ("always", s)))),
                     (("not", ("next", s)), ("next", ("not", s))), (("again", s), ("next", ("again", s)))]
            for one, other in pairs:
                for way, ring in RUNS:
                    self.assertEqual(row_of(one, way, ring), row_of(other, way, ring), (one, other))


class MarksTest(MeaningCase):
    def test_the_empty_mark(self):
        self.need_row(A, "-|-a", "001")
        self.need_row(("not", A), "-|-a", "110")
        self.need_row(("always", ("and", ("not", A), ("not", B))), "a|-", "01")
        self.need_row(("till", ("not", A), A), "-|-a", "111")

    def test_a_mark_that_is_named_nowhere(self):
        self.need_row(("till", ("not", A), B), "xy|zb", "1111")
        self.need_row(("again", ("mark", "zzz")), "ab|ab", "0000")
        self.need_row(("always", ("not", ("mark", "zzz"))), "ab|ab", "1111")

    def test_long_runs(self):
        way, ring = ["a"] * 20000, ["a"] * 20000 + ["b"]
        self.assertEqual(row_of(("till", A, B), way, ring), [True] * 40001)
        self.assertEqual(row_of(("always", A), way, ["a"] * 20000), [True] * 40000)
        self.assertEqual(row_of(("always", A), way, ring), [False] * 40001)
        self.assertEqual(row_of(("again", B), way, ring), [True] * 40001)


class OwnershipTest(MeaningCase):
    def test_what_is_handed_in_stays(self):
        for saying in small_sayings():
            way, ring = ["b", "a"], ["a", "", "b"]
            row_of(saying, way, ring)
            holds(saying, way, ring)
            self.assertEqual((way, ring), (["b", "a"], ["a", "", "b"]))

    def test_what_is_told_is_a_new_list_each_time(self):
        for saying in small_sayings():
            way, ring = ["b", "a"], ["a", "", "b"]
            first, told = row_of(saying, way, ring), row_by_hand(saying, way, ring)
            second = row_of(saying, way, ring)
            self.assertIs(type(first), list)
            first.clear()
            way.clear()
            ring.reverse()
            self.assertEqual(second, told)
            self.assertEqual(row_of(saying, ["b", "a"], ["a", "", "b"]), told)

    def test_one_list_handed_in_for_both(self):
        row = ["a", "b"]
        self.assertEqual(row_of(("next", A), row, row), bits("0101"))
        self.assertEqual(row, ["a", "b"])


class InterfaceTest(unittest.TestCase):
    def test_it_is_defined_in_its_file(self):
        for function in (holds, row_of):
            self.assertEqual(function.__module__, "everafter.meaning")

    def test_names_of_the_arguments(self):
        self.assertIs(holds(saying=A, way=[], ring=["a"]), True)
        self.assertEqual(row_of(saying=A, way=["b"], ring=["a"]), [False, True])


if __name__ == "__main__":
    unittest.main()
