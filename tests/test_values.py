"""Points 70 to 72: the order of all values, arithmetic, comparisons, three-valued operators."""

import itertools
import unittest

from kithwhole.values import (
    arithmetic, compare, conjunction, disjunction, negation, row_key, same, value_key,
)

BIG = 10 ** 40
# All values in their order.
ORDERED = [None, False, True, -3 * BIG, -BIG, 1 - BIG, -2, -1, 0, 1, 2, 10, BIG - 1, BIG, BIG + 1, "", "\n", " ", "1",
           "10", "2", "a", "a ", "ab", "b", "~"]


class Order(unittest.TestCase):
    def test_keys_are_in_the_order_of_the_values(self):
        for (one, first), (other, second) in itertools.product(enumerate(ORDERED), repeat=2):
            self.assertIs(value_key(first) < value_key(second), one < other, (first, second))
            self.assertIs(value_key(first) == value_key(second), one == other, (first, second))
            self.assertIs(same(first, second), one == other, (first, second))

    def test_keys_are_tuples_of_integers_and_strings(self):
        for value in ORDERED:
            for key in (value_key(value), row_key((value, value))):
                self.assertIs(type(key), tuple)
                for part in key:
                    self.assertIn(type(part), (int, str))

    def test_a_boolean_is_never_an_integer(self):
        self.assertIs(same(True, 1), False)
        self.assertIs(same(False, 0), False)
        self.assertIs(same(0, False), False)
        self.assertIs(same(None, False), False)
        self.assertIs(same("1", 1), False)
        self.assertIs(same(None, ""), False)

    def test_the_same(self):
        self.assertIs(same(BIG, 10 * 10 ** 39), True)
        self.assertIs(same(None, None), True)
        self.assertIs(same("ab", "a" + "b"), True)

    def test_rows(self):
        few = [None, False, True, 0, 1, "", "a", "ab"]
        rows = sorted(itertools.product(range(len(few)), repeat=2))
        keys = [row_key((few[a], few[b])) for a, b in rows]
        self.assertEqual(keys, sorted(keys))
        self.assertEqual(len(set(keys)), len(keys))
        self.assertLess(row_key((1, "z")), row_key((2, "a")))
        self.assertLess(row_key(("a", 2)), row_key(("ab", 1)))
        self.assertNotEqual(row_key((True,)), row_key((1,)))
        self.assertEqual(row_key(()), ())


class Arithmetic(unittest.TestCase):
    def both(self, first, second):
        return (arithmetic("/", first, second), arithmetic("mod", first, second))

    def test_sums_and_products(self):
        self.assertEqual(arithmetic("+", 2, 3), 5)
        self.assertEqual(arithmetic("-", 2, 3), -1)
        self.assertEqual(arithmetic("*", -2, 3), -6)

    def test_division_rounds_toward_zero(self):
        self.assertEqual(self.both(7, 2), (3, 1))
        self.assertEqual(self.both(-7, 2), (-3, -1))
        self.assertEqual(self.both(7, -2), (-3, 1))
        self.assertEqual(self.both(-7, -2), (3, -1))
        self.assertEqual(self.both(6, -3), (-2, 0))
        self.assertEqual(self.both(-1, 5), (0, -1))
        self.assertEqual(self.both(0, -5), (0, 0))

    def test_quotient_and_remainder_belong_together(self):
        for first, second in itertools.product(list(range(-9, 10)) + [BIG - 1, 1 - BIG], repeat=2):
            if second == 0:
                continue
            quotient, remainder = self.both(first, second)
            self.assertEqual(quotient * second + remainder, first)
            self.assertLess(abs(remainder), abs(second))
            self.assertTrue(remainder == 0 or (remainder < 0) == (first < 0))

    def test_division_by_zero(self):
        self.assertEqual(self.both(5, 0), (None, None))
        self.assertEqual(self.both(0, 0), (None, None))

    def test_none(self):
        for operator in ("+", "-", "*", "/", "mod"):
            self.assertIsNone(arithmetic(operator, None, 2))
            self.assertIsNone(arithmetic(operator, 2, None))
            self.assertIsNone(arithmetic(operator, None, None))
            self.assertIsNone(arithmetic(operator, None, 0))
        self.assertIsNone(arithmetic("||", None, "a"))
        self.assertIsNone(arithmetic("||", "a", None))

    def test_bounds(self):
        most = BIG - 1
        self.assertEqual(arithmetic("+", most, 0), most)
        self.assertIsNone(arithmetic("+", most, 1))
        self.assertEqual(arithmetic("-", -most, 0), -most)
        self.assertIsNone(arithmetic("-", -most, 1))
        self.assertIsNone(arithmetic("*", 10 ** 20, 10 ** 20))
        self.assertIsNone(arithmetic("*", -10 ** 20, 10 ** 20))
        self.assertEqual(arithmetic("*", 10 ** 20, 10 ** 20 - 1), BIG - 10 ** 20)

    def test_great_operands(self):
        self.assertEqual(arithmetic("-", BIG + 5, BIG), 5)
        self.assertIsNone(arithmetic("+", BIG, 0))
        self.assertIsNone(arithmetic("/", BIG, 1))
        self.assertIsNone(arithmetic("/", -BIG, 1))
        self.assertEqual(arithmetic("/", BIG, 10), 10 ** 39)
        self.assertIsNone(arithmetic("mod", BIG, BIG + 1))
        self.assertEqual(arithmetic("mod", BIG + 3, BIG), 3)
        self.assertEqual(arithmetic("*", BIG, 0), 0)

    def test_joined_strings(self):
        self.assertEqual(arithmetic("||", "a", "b"), "ab")
        self.assertEqual(arithmetic("||", "", ""), "")
        self.assertEqual(arithmetic("||", "a" * 1999, "b"), "a" * 1999 + "b")
        self.assertIsNone(arithmetic("||", "a" * 2000, "b"))
        self.assertIsNone(arithmetic("||", "a" * 2001, ""))


class Comparisons(unittest.TestCase):
    def test_they_follow_the_order_of_all_values(self):
        told = {"=": lambda a, b: a == b, "<>": lambda a, b: a != b, "<": lambda a, b: a < b,
                "<=": lambda a, b: a <= b, ">": lambda a, b: a > b, ">=": lambda a, b: a >= b}
        for operator, meaning in told.items():
            for (one, first), (other, second) in itertools.product(enumerate(ORDERED), repeat=2):
                expected = None if first is None or second is None else meaning(one, other)
                self.assertIs(compare(operator, first, second), expected, (operator, first, second))


class ThreeValues(unittest.TestCase):
    def test_negation(self):
        self.assertEqual([negation(value) for value in (True, False, None)], [False, True, None])

    def test_conjunction(self):
        told = {(True, True): True, (True, False): False, (True, None): None, (False, True): False,
                (False, False): False, (False, None): False, (None, True): None, (None, False): False,
                (None, None): None}
        for (first, second), expected in told.items():
            self.assertIs(conjunction(first, second), expected, (first, second))

    def test_disjunction(self):
        told = {(True, True): True, (True, False): True, (True, None): True, (False, True): True,
                (False, False): False, (False, None): None, (None, True): True, (None, False): None,
                (None, None): None}
        for (first, second), expected in told.items():
            self.assertIs(disjunction(first, second), expected, (first, second))


if __name__ == "__main__":
    unittest.main()
