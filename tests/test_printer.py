"""Points 52 to 59 of the printer: a text that is read as the tree, with as few parentheses as can be."""

import itertools
import random
import unittest

from kithwhole.errors import RefusedText
from kithwhole.parser import parse
from kithwhole.printer import write_question
from kithwhole.tokens import tokenize, write_token
from tests.grammar import sentence
from tests.trees import A, B, C, col, full_question, lit, op, question, select, table

ONE = select(lit(1))
# A tree for each line of point 54 and its text.
OF_LINE = {
    1: (op("or", B, C), "b or c"), 2: (op("and", B, C), "b and c"), 3: (("not", B), "not b"),
    4: (op("=", B, C), "b = c"), 5: (op("+", B, C), "b + c"), 6: (op("*", B, C), "b * c"),
    7: (("negate", B), "- b"), 8: (B, "b"),
}
MORE_OF_LINE = [
    (4, ("is_null", B, True), "b is not null"), (4, ("in_list", B, (C,), False), "b in (c)"),
    (4, ("in_query", B, ONE, True), "b not in (select 1)"), (8, lit(0), "0"), (8, lit("x"), "'x'"),
    (8, lit(None), "null"), (8, lit(True), "true"), (8, ("parameter", 1), "$1"), (8, col("b", "t"), "t.b"),
    (8, ("count_all",), "count(*)"), (8, ("aggregate", "min", B), "min(b)"), (8, ("exists", ONE), "exists (select 1)"),
    (8, ("scalar", ONE), "(select 1)"), (8, ("case", B, B, C), "case when b then b else c end"),
    (4, op(">=", B, C), "b >= c"), (5, op("||", B, C), "b || c"), (5, op("-", B, C), "b - c"),
    (6, op("/", B, C), "b / c"), (6, op("mod", B, C), "b mod c"),
]
OPERANDS = [(line,) + pair for line, pair in OF_LINE.items()] + MORE_OF_LINE


def words(text):
    return [write_token(token) for token in tokenize(text)]


def without(listed, pair):
    return " ".join(word for place, word in enumerate(listed) if place not in pair)


def pairs_of_parentheses(listed):
    stack, pairs = [], []
    for place, word in enumerate(listed):
        if word == "(":
            stack.append(place)
        elif word == ")":
            pairs.append((stack.pop(), place))
    return pairs


class Base(unittest.TestCase):
    def printed(self, tree, expected):
        """The words of the text are the expected ones, and they are read as the tree."""
        text = write_question(tree)
        self.assertEqual(words(text), words(expected))
        self.assertEqual(parse(text), tree)

    def expression(self, tree, expected):
        self.printed(question(select(tree)), "select " + expected)


class Expressions(Base):
    def test_leaves(self):
        for _, tree, text in OPERANDS:
            self.expression(tree, text)
        for value, text in ((0, "0"), (10 ** 30 - 1, "9" * 30), (False, "false"), ("", "''"), ("it's", "'it''s'"),
                            ("a\n''", "'a\n'''''")):
            self.expression(lit(value), text)
        self.expression(("parameter", 0), "$0")
        self.expression(("parameter", 42), "$42")

    def put(self, inner, line):
        """The text of an operand where one of this line or a tighter one may stand."""
        return inner[2] if inner[0] >= line else "(" + inner[2] + ")"

    def test_operands_of_operators(self):
        lines = {"or": 1, "and": 2, "=": 4, "<>": 4, "<": 4, "<=": 4, ">": 4, ">=": 4, "+": 5, "-": 5, "||": 5, "*": 6,
                 "/": 6, "mod": 6}
        for (operator, line), inner in itertools.product(lines.items(), OPERANDS):
            self.expression(op(operator, inner[1], A), f"{self.put(inner, line)} {operator} a")
            self.expression(op(operator, A, inner[1]), f"a {operator} {self.put(inner, line + 1)}")

    def test_operands_of_what_stands_behind_or_ahead(self):
        for inner in OPERANDS:
            four = self.put(inner, 4)
            self.expression(("is_null", inner[1], False), four + " is null")
            self.expression(("is_null", inner[1], True), four + " is not null")
            self.expression(("in_list", inner[1], (A, B), False), four + " in (a, b)")
            self.expression(("in_query", inner[1], ONE, True), four + " not in (select 1)")
            self.expression(("not", inner[1]), "not " + self.put(inner, 3))
            self.expression(("negate", inner[1]), "- " + self.put(inner, 7))

    def test_places_without_parentheses(self):
        for _, tree, text in OPERANDS:
            self.expression(("aggregate", "sum", tree), f"sum({text})")
            self.expression(("case", tree, tree, tree), f"case when {text} then {text} else {text} end")
            self.expression(("in_list", A, (tree, tree), False), f"a in ({text}, {text})")
            self.printed(question(select((tree, "n"), tree)), f"select {text} as n, {text}")
            self.printed(question(select(A, where=tree, group=(tree, tree), having=tree)),
                         f"select a where {text} group by {text}, {text} having {text}")
            self.printed(question(select(source=("join", table("t"), table("u"), tree, True))),
                         f"select * from t left join u on {text}")

    def test_chains(self):
        left = right = A
        for _ in range(5):
            left, right = op("-", left, B), op("-", B, right)
        self.expression(left, "a" + " - b" * 5)
        self.expression(right, "b - (" * 4 + "b - a" + ")" * 4)
        self.expression(("not", ("not", ("negate", ("negate", A)))), "not not - - a")
        self.expression(op("=", op("=", A, B), op("=", A, B)), "a = b = (a = b)")
        self.expression(("negate", ("negate", op("*", A, ("negate", B)))), "- - (a * - b)")

    def test_a_list_of_one_query(self):
        self.expression(("in_list", A, (("scalar", ONE),), False), "a in ((select 1))")
        self.expression(("in_query", A, ONE, False), "a in (select 1)")
        self.expression(op("*", op("+", ("scalar", ONE), A), B), "((select 1) + a) * b")


class Queries(Base):
    def test_set_operators(self):
        a, b, c = select(A), select(B), select(C)
        for first, second in itertools.product(("union all", "union", "except", "intersect"), repeat=2):
            self.printed(question(("set", first, ("set", second, a, b), c)),
                         f"select a {second} select b {first} select c")
            self.printed(question(("set", first, a, ("set", second, b, c))),
                         f"select a {first} (select b {second} select c)")
        chain = ("set", "union", a, ("set", "except", b, ("set", "intersect", c, ("set", "union all", a, b))))
        text = "select a union (select b except (select c intersect (select a union all select b)))"
        self.printed(question(chain), text)
        self.printed(question(select(("scalar", chain), ("exists", chain), ("in_query", A, chain, False))),
                     f"select ({text}), exists ({text}), a in ({text})")
        self.printed(question(select(source=("subquery", chain, "q"))), f"select * from ({text}) q")

    def test_everything_of_a_select(self):
        self.printed(question(select()), "select *")
        self.printed(question(select(distinct=True)), "select distinct *")
        self.printed(question(select(A, (B, "n"), distinct=True, source=table("t", "x"), where=A, group=(A, B), having=C),
                              ("n", True), (2, False), limit=0),
                     "select distinct a, b as n from t x where a group by a, b having c order by n desc, 2 limit 0")
        self.printed(question(select(A), limit=10 ** 30 - 1), "select a limit " + "9" * 30)

    def test_sources(self):
        t, u, v = table("t"), table("u", "y"), ("subquery", ONE, "q")
        self.printed(question(select(source=t)), "select * from t")
        self.printed(question(select(source=v)), "select * from (select 1) q")
        self.printed(question(select(source=("join", ("join", t, u, A, False), v, B, True))),
                     "select * from t join u y on a left join (select 1) q on b")

    def test_blanks(self):
        text = "select x.a, count(*) as n from t x where (a + 1) * 2 in (1, - 2) and not exists (select 'it''s')"
        self.assertEqual(write_question(parse(text.replace(" ", "  "))), text)

    def test_words_side_by_side(self):
        tree = question(select((lit(1), "a"), op("mod", lit(2), ("negate", lit(3))), ("aggregate", "count", lit("x")),
                               source=table("t"), where=("is_null", ("not", lit(True)), False)), (1, True), limit=5)
        self.assertEqual(parse(write_question(tree)), tree)


class Random(unittest.TestCase):
    def trees(self, seeds):
        for seed in seeds:
            chance = random.Random(seed)
            text = " ".join(sentence(chance, chance.choice([100, 200, 300]), chance.choice([0.3, 0.5, 0.7])))
            try:
                yield text, parse(text)
            except RefusedText:
                pass

    def test_it_is_read_as_the_tree(self):
        count = 0
        for text, tree in self.trees(range(1500)):
            written = write_question(tree)
            self.assertEqual(parse(written), tree, text)
            self.assertLessEqual(len(words(written)), len(words(text)))
            count += 1
            try:
                self.assertEqual(parse(full_question(tree)), tree)
            except RefusedText:
                pass
        self.assertGreater(count, 500)

    def test_no_parentheses_can_be_left_out(self):
        count = 0
        for _, tree in self.trees(range(600)):
            listed = words(write_question(tree))
            pairs = pairs_of_parentheses(listed)
            several = itertools.chain(itertools.combinations(pairs[:12], 1), itertools.combinations(pairs[:12], 2))
            for some in several:
                shorter = without(listed, [place for pair in some for place in pair])
                try:
                    self.assertNotEqual(parse(shorter), tree, shorter)
                except RefusedText:
                    pass
                count += 1
        self.assertGreater(count, 500)

    def test_deep_trees(self):
        tree, query, source = A, ONE, table("t")
        for index in range(33):
            tree = ("not", op("or", B, ("case", A, tree, B)))
            query = select(("scalar", query), (("exists", query), "n")) if index < 8 else ("set", "union", ONE, query)
            source = ("subquery", select(source=source), "t")
        text = write_question(question(select(tree, source=source, where=("exists", query))))
        self.assertEqual(text.count("case"), 33)


if __name__ == "__main__":
    unittest.main()
