import unittest

from everafter import errors
from everafter.errors import BadMachine, BadSaying, NoWalk, TooMany, WalkError

KINDS = [BadSaying, TooMany, BadMachine, NoWalk]


class ErrorsTest(unittest.TestCase):
    def test_any_refusal_stands_straight_under_value_error(self):
        self.assertEqual(WalkError.__bases__, (ValueError,))

    def test_each_kind_stands_straight_under_walk_error(self):
        for kind in KINDS:
            self.assertEqual(kind.__bases__, (WalkError,), kind)

    def test_no_kind_is_caught_by_the_name_of_another(self):
        for kind in KINDS:
            for other in KINDS:
                self.assertEqual(issubclass(kind, other), kind is other, (kind, other))
            self.assertFalse(issubclass(WalkError, kind), kind)

    def test_each_is_raised_and_caught(self):
        for kind in KINDS:
            for name in (kind, WalkError, ValueError):
                with self.assertRaises(name):
                    raise kind("why")

    def test_each_is_defined_in_its_file_under_its_name(self):
        for kind in [WalkError, *KINDS]:
            self.assertEqual(kind.__module__, "everafter.errors")
            self.assertIs(getattr(errors, kind.__name__), kind)


if __name__ == "__main__":
    unittest.main()
