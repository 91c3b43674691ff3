"""Trees that are nested 100 deep (the interface, below the forms of trees): written, checked and answered."""

import unittest

from kithwhole.errors import RefusedText
from kithwhole.kinds import check
from kithwhole.meaning import answer
from kithwhole.parser import parse
from kithwhole.printer import write_question
from kithwhole.sources import Source
from tests.trees import lit, op, question, select, table

DEPTH = 100
SOURCES = {"t": Source("t", ["id", "a"], ["text", "integer"], [("1", 1), ("2", 2)])}
ONE = lit(1)
# What grows by one level each time, and the value in the end.
GROWING = {
    "not": (lit(True), lambda e: ("not", e), True),
    "negate": (ONE, lambda e: ("negate", e), 1),
    "left": (ONE, lambda e: op("+", e, ONE), 101),
    "right": (ONE, lambda e: op("-", ONE, e), 1),
    "or": (lit(False), lambda e: op("or", lit(False), e), False),
    "is_null": (lit(None), lambda e: ("is_null", e, False), False),
    "in_list": (lit(True), lambda e: ("in_list", lit(True), (e,), False), True),
    "in_operand": (lit(True), lambda e: ("in_list", e, (lit(True),), True), True),
    "case": (ONE, lambda e: ("case", lit(True), e, ONE), 1),
    "case_condition": (lit(True), lambda e: ("case", e, lit(True), lit(False)), True),
}
# A level of these consists of an expression and of a query.
QUERIES = {
    "scalar": (ONE, lambda e: ("scalar", select(("aggregate", "max", e))), 1),
    "exists": (lit(True), lambda e: ("exists", select(ONE, where=e)), True),
    "having": (lit(True), lambda e: ("exists", select(ONE, having=e)), True),
    "in_query": (lit(True), lambda e: ("in_query", lit(True), select(e), False), True),
    "on": (lit(True), lambda e: ("exists", select(ONE, source=("join", table("t"), table("t", "x"), e, True))), True),
}


class Deep(unittest.TestCase):
    def asked(self, tree, expected):
        self.assertEqual(len(check(tree, SOURCES, [])), len(expected[0]))
        self.assertEqual(answer(tree, SOURCES, [])[1], expected)
        text = write_question(tree)
        try:
            self.assertEqual(parse(text), tree)
        except RefusedText:
            pass

    def test_expressions(self):
        for name, (tree, grow, value) in GROWING.items():
            with self.subTest(name):
                for _ in range(DEPTH):
                    tree = grow(tree)
                self.asked(question(select(tree)), [(value,)])

    def test_queries_in_expressions(self):
        for name, (tree, grow, value) in QUERIES.items():
            with self.subTest(name):
                many = 8 if name == "on" else DEPTH // 2
                for _ in range(many):
                    tree = grow(tree)
                self.asked(question(select(tree)), [(value,)])

    def test_set_operators(self):
        left = right = select(ONE)
        for _ in range(DEPTH):
            left, right = ("set", "union", left, select(ONE)), ("set", "intersect", select(ONE), right)
        self.asked(question(left), [(1,)])
        self.asked(question(right), [(1,)])

    def test_sources(self):
        source = table("t")
        for _ in range(DEPTH // 2):
            source = ("subquery", select(source=source), "t")
        self.asked(question(select(source=source)), [("1", 1), ("2", 2)])
        source = table("t")
        for index in range(DEPTH):
            source = ("join", source, table("t", f"x{index}"), op("=", ("column", f"x{index}", "a"), ONE), False)
        tree = question(select(("column", "t", "a"), source=source))
        self.asked(tree, [(1,), (2,)])


if __name__ == "__main__":
    unittest.main()
