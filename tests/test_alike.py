"""A helper of points 89, 131 and 133: values that are equal and of equal kinds."""

import unittest

from kithwhole.alike import alike


class Alike(unittest.TestCase):
    def told(self, first, second, expected):
        self.assertIs(alike(first, second), expected)
        self.assertIs(alike(second, first), expected)

    def test_what_is_alike(self):
        for thing in (None, True, False, 0, 1, -3, 10 ** 40, "", "a", (), (1, "a", None), [1], [], ((1, (True,)), "x"), [(1,)]):
            self.told(thing, thing, True)
        self.told((1, 2, ("a", False)), (1, 2, ("a", False)), True)

    def test_what_is_not(self):
        for first, second in (
            (True, 1), (False, 0), (None, False), (None, 0), ("", None), ("1", 1), (1, 2), ("a", "b"), ((), None), ((), []),
            ((1,), [1]), ([1], 1), ([], 0), ((), ""), ((1,), 1), ((1,), (True,)), ((1,), (1, 1)),
            ((1, 2), (2, 1)), ([1], [True]),
            (((0,),), ((False,),)), ((1, (2, 3)), (1, (2, 4))), ([1, 2], [1]), ("a", ("a",)), ("a", ["a"]), (1, 1.0),
        ):
            self.told(first, second, False)

    def test_things_that_are_nested_deep(self):
        first = second = other = ()
        for _ in range(5000):
            first, second, other = (first,), (second,), (other,)
        self.told(first, second, True)
        self.told(first, (other,), False)


if __name__ == "__main__":
    unittest.main()
