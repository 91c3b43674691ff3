"""What points 64 to 67 ask of a select: columns that are found, operands, aggregates that belong to it."""

import unittest

from kithwhole.parser import parse
from kithwhole.scopes import find_columns, has_aggregate, is_grouping, item_name, operands
from tests.trees import A, B, C, lit, op, select


class Scopes(unittest.TestCase):
    def test_columns(self):
        scopes = [[("t", "a"), ("t", "b")], [("u", "b"), ("v", "b"), ("v", "c")], []]
        self.assertEqual(find_columns(scopes, None, "a"), (0, [0]))
        self.assertEqual(find_columns(scopes, None, "b"), (1, [0, 1]))
        self.assertEqual(find_columns(scopes, "v", "b"), (1, [1]))
        self.assertEqual(find_columns(scopes, "t", "b"), (0, [1]))
        self.assertIsNone(find_columns(scopes, "u", "c"))
        self.assertIsNone(find_columns(scopes, None, "d"))
        self.assertIsNone(find_columns([], None, "a"))

    def test_names(self):
        self.assertEqual(item_name(("column", "t", "a"), None), "a")
        self.assertEqual(item_name(("column", "t", "a"), "b"), "b")
        self.assertEqual(item_name(lit(1), None), "")

    def test_operands(self):
        query = select(lit(1))
        told = {A: (), lit(1): (), ("parameter", 1): (), ("count_all",): (), ("exists", query): (), ("scalar", query): (),
                ("not", A): (A,), ("negate", A): (A,), op("+", A, B): (A, B), ("is_null", A, True): (A,),
                ("in_list", A, (B, C), False): (A, B, C), ("in_query", A, query, False): (A,),
                ("case", A, B, C): (A, B, C), ("aggregate", "sum", A): (A,)}
        for expression, expected in told.items():
            self.assertEqual(operands(expression), expected)

    def test_aggregates(self):
        told = {"a": False, "count(*)": True, "max(a)": True, "1 + - max(a)": True, "case when a then b else max(c) end": True,
                "a in (b, count(*))": True, "not count(*) is null": True, "(select count(*))": False,
                "exists (select count(*))": False, "a in (select count(*))": False, "max(a) in (select 1)": True}
        for text, expected in told.items():
            self.assertIs(has_aggregate(parse("select " + text)[1][2][0][0]), expected, text)

    def test_grouping(self):
        told = {"select a": False, "select *": False, "select count(*)": True, "select a group by a": True,
                "select a having true": True, "select * having true": True, "select a, 1 + max(b)": True,
                "select a where b in (select count(*))": False, "select (select count(*))": False}
        for text, expected in told.items():
            self.assertIs(is_grouping(parse(text)[1]), expected, text)


if __name__ == "__main__":
    unittest.main()
