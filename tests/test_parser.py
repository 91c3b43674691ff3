"""Points 54 to 59: the trees of questions, how operators bind, where a question is refused."""

import itertools
import random
import unittest

from kithwhole.errors import RefusedText
from kithwhole.parser import parse
from kithwhole.tokens import tokenize
from tests.grammar import GRAMMAR, refused_at, sentence
from tests.trees import A, B, C, D, col, lit, op, question, select, table

# An operator of each line with two operands, told by a text and by its tree.
LINES = {
    1: [("or", lambda a, b: op("or", a, b))],
    2: [("and", lambda a, b: op("and", a, b))],
    4: [(sign, lambda a, b, sign=sign: op(sign, a, b)) for sign in ("=", "<>", "<", "<=", ">", ">=")],
    5: [(sign, lambda a, b, sign=sign: op(sign, a, b)) for sign in ("+", "-", "||")],
    6: [(sign, lambda a, b, sign=sign: op(sign, a, b)) for sign in ("*", "/", "mod")],
}
BEHIND = {
    "is null": lambda a: ("is_null", a, False), "is not null": lambda a: ("is_null", a, True),
    "in (c, d)": lambda a: ("in_list", a, (C, D), False), "not in (c)": lambda a: ("in_list", a, (C,), True),
    "in (select 1)": lambda a: ("in_query", a, select(lit(1)), False),
    "not in (select 1)": lambda a: ("in_query", a, select(lit(1)), True),
}


class Base(unittest.TestCase):
    def expression(self, text):
        """The tree of an expression."""
        tree = parse("select " + text)
        _, (kind, distinct, items, *rest), order, limit = tree
        self.assertEqual((kind, distinct, rest, order, limit), ("select", False, [None] * 4, (), None))
        self.assertEqual(len(items), 1)
        self.assertIsNone(items[0][1])
        return items[0][0]

    def told(self, text, expected):
        self.assertEqual(self.expression(text), expected, text)

    def question(self, text, expected):
        self.assertEqual(parse(text), expected, text)

    def refused(self, text, position=None):
        """The text is refused at the position, or where it ends."""
        with self.assertRaises(RefusedText, msg=text) as caught:
            parse(text)
        self.assertEqual(caught.exception.position, len(text) if position is None else position, text)


class Operators(Base):
    def test_each_line_beside_each_other_one(self):
        for (line, signs), (other, others) in itertools.product(LINES.items(), repeat=2):
            for (sign, first), (word, second) in itertools.product(signs, others):
                # The left operator is asked first unless the right one binds tighter.
                if line >= other:
                    expected = second(first(A, B), C)
                else:
                    expected = first(A, second(B, C))
                self.told(f"a {sign} b {word} c", expected)

    def test_what_stands_behind_beside_each_line(self):
        for text, behind in BEHIND.items():
            for line, signs in LINES.items():
                for sign, tree in signs:
                    expected = tree(A, behind(B)) if line < 4 else behind(tree(A, B))
                    self.told(f"a {sign} b {text}", expected)
            for other, more in BEHIND.items():
                self.told(f"a {text} {other}", more(behind(A)))
            self.told(f"not a {text}", ("not", behind(A)))
            self.told(f"- a {text}", behind(("negate", A)))

    def test_what_may_follow(self):
        for text, behind in BEHIND.items():
            for line in (1, 2, 4):
                for sign, tree in LINES[line]:
                    self.told(f"a {text} {sign} b", tree(behind(A), B))
            for sign in ("+", "-", "||", "*", "/", "mod", "b", "1", "case"):
                self.refused(f"select a {text} {sign} b", len(f"select a {text} "))
            self.refused(f"select a {text} not not b", len(f"select a {text} not "))
            self.refused(f"select a {text} is is b", len(f"select a {text} is "))

    def test_not(self):
        self.told("not not a", ("not", ("not", A)))
        self.told("not a or b", op("or", ("not", A), B))
        self.told("not a and b", op("and", ("not", A), B))
        self.told("a and not b", op("and", A, ("not", B)))
        self.told("a and not b and c", op("and", op("and", A, ("not", B)), C))
        self.told("a or not b and c", op("or", A, op("and", ("not", B), C)))
        for line in (4, 5, 6):
            for sign, tree in LINES[line]:
                self.told(f"not a {sign} b", ("not", tree(A, B)))
                self.refused(f"select a {sign} not b", len(f"select a {sign} "))
                self.told(f"a {sign} (not b)", tree(A, ("not", B)))
        self.told("(not a) = b", op("=", ("not", A), B))

    def test_minus(self):
        self.told("- a", ("negate", A))
        self.told("- 5", ("negate", lit(5)))
        self.told("-5", ("negate", lit(5)))
        self.told("- - a", ("negate", ("negate", A)))
        self.told("a - - b", op("-", A, ("negate", B)))
        self.told("a - b - c", op("-", op("-", A, B), C))
        self.told("a - (b - c)", op("-", A, op("-", B, C)))
        self.told("not - a", ("not", ("negate", A)))
        self.refused("select - not a", 9)
        for line, signs in LINES.items():
            for sign, tree in signs:
                self.told(f"- a {sign} b", tree(("negate", A), B))
                self.told(f"a {sign} - b", tree(A, ("negate", B)))

    def test_parentheses(self):
        self.told("(a)", A)
        self.told("(((a)))", A)
        self.told("(a or b) and c", op("and", op("or", A, B), C))
        self.told("a = (b = c)", op("=", A, op("=", B, C)))
        self.told("-(a + b)", ("negate", op("+", A, B)))

    def test_a_chain(self):
        self.told("a + b * c || d = a mod b and not c < - d or a", op(
            "or", op("and", op("=", op("||", op("+", A, op("*", B, C)), D), op("mod", A, B)),
                     ("not", op("<", C, ("negate", D)))), A))


class Primary(Base):
    def test_literals(self):
        self.told("0", lit(0))
        self.told("007", lit(7))
        self.told("'it''s'", lit("it's"))
        self.told("''", lit(""))
        for text, value in (("null", None), ("true", True), ("false", False)):
            told = self.expression(text)
            self.assertEqual(told[0], "literal")
            self.assertIs(told[1], value)
        self.assertIs(type(self.expression("1")[1]), int)

    def test_parameters_and_columns(self):
        self.told("$1", ("parameter", 1))
        self.told("$00", ("parameter", 0))
        self.told("a", col("a"))
        self.told("t.a", col("a", "t"))
        self.told("t . a", col("a", "t"))
        self.refused("select t.", 9)
        self.refused("select t.count", 9)
        self.refused("select t.1", 9)
        self.refused("select t.a.b", 10)
        self.refused("select .a", 7)

    def test_aggregates(self):
        self.told("count(*)", ("count_all",))
        for word in ("count", "sum", "min", "max"):
            self.told(f"{word}(a)", ("aggregate", word, A))
            self.told(f"{word} ( a + b ) + c", op("+", ("aggregate", word, op("+", A, B)), C))
            self.told(f"{word}((select 1))", ("aggregate", word, ("scalar", select(lit(1)))))
            self.refused(f"select {word}", None)
            self.refused(f"select {word} a", len(f"select {word} "))
            self.refused(f"select {word}()", len(f"select {word}("))
            self.refused(f"select {word}(a, b)", len(f"select {word}(a"))
            self.refused(f"select {word}(select 1)", len(f"select {word}("))
            self.refused(f"select {word}(distinct a)", len(f"select {word}("))
        for word in ("sum", "min", "max"):
            self.refused(f"select {word}(*)", len(f"select {word}("))
        self.refused("select count(* a)", 15)
        self.refused("select count a *", 13)
        self.refused("select count(*", None)

    def test_case(self):
        self.told("case when a then b else c end", ("case", A, B, C))
        self.told("case when a or b then not c else a = b end = d", op(
            "=", ("case", op("or", A, B), ("not", C), op("=", A, B)), D))
        self.told("case when a then b else case when b then c else d end end", ("case", A, B, ("case", B, C, D)))
        self.refused("select case a when b then c end", 12)
        self.refused("select case when a then b end", 26)
        self.refused("select case when a then b when c then d else a end", 26)
        self.refused("select case when a else b end", 19)
        for end in ("", " case", " case when", " case when a", " case when a then", " case when a then b else c"):
            self.refused("select" + end)

    def test_queries(self):
        one = select(lit(1))
        self.told("(select 1)", ("scalar", one))
        self.told("((select 1))", ("scalar", one))
        self.told("(select 1) + 2", op("+", ("scalar", one), lit(2)))
        self.told("((select 1) + 2) * 3", op("*", op("+", ("scalar", one), lit(2)), lit(3)))
        self.told("exists (select 1)", ("exists", one))
        self.told("exists ((select 1))", ("exists", one))
        self.told("not exists (select 1) and a", op("and", ("not", ("exists", one)), A))
        self.told("(select 1 union (select 1))", ("scalar", ("set", "union", one, one)))
        self.told("exists ((select 1) union select 1)", ("exists", ("set", "union", one, one)))
        self.refused("select exists", 13)
        self.refused("select exists (1)", 15)
        self.refused("select exists select 1", 14)
        self.refused("select exists ((1))", 16)

    def test_a_parenthesis_starts_a_query_before_select(self):
        self.refused("select ((select 1) union select 1)", 19)
        self.refused("select a in ((select 1) union select 1)", 24)
        one = select(lit(1))
        self.told("a in ((select 1))", ("in_list", A, (("scalar", one),), False))
        self.told("a in ((select 1), 2)", ("in_list", A, (("scalar", one), lit(2)), False))
        self.told("a in (select 1 union select 1)", ("in_query", A, ("set", "union", one, one), False))
        self.told("(((select 1)))", ("scalar", one))

    def test_lists(self):
        self.told("a in (b)", ("in_list", A, (B,), False))
        self.told("a in (b or c, not d)", ("in_list", A, (op("or", B, C), ("not", D)), False))
        self.told("a + b not in (c)", ("in_list", op("+", A, B), (C,), True))
        self.told("a in (b) in (c)", ("in_list", ("in_list", A, (B,), False), (C,), False))
        self.refused("select a in ()", 13)
        self.refused("select a in b", 12)
        self.refused("select a in (b,)", 15)
        self.refused("select a not b", 13)
        self.refused("select a not", 12)
        self.refused("select a is b", 12)
        self.refused("select a is not b", 16)
        self.refused("select a is not", 15)


    def test_a_text_is_no_keyword_and_no_sign(self):
        for word in ("select", "not", "-", "(", "*", "distinct", "null", "case", "exists", "count", "sum", "from"):
            self.told(f"'{word}'", lit(word))
            self.told(f"a = '{word}'", op("=", A, lit(word)))
            self.told(f"('{word}')", lit(word))
            self.told(f"a in ('{word}')", ("in_list", A, (lit(word),), False))
        for word in ("or", "and", "=", "is", "in", "not", "+", "*", "as", "from", "where", "union", "order", "limit", ","):
            self.refused(f"select a '{word}' b", 9)
        self.refused("select t'.'a", 8)
        self.refused("select a is 'not' null", 12)
        self.refused("select a is 'null'", 12)
        self.refused("select a union 'all' select b", 15)
        self.refused("select a union '('select b)", 15)
        self.refused("select count('*'", None)
        self.refused("select a from '('select b) c", 14)
        self.refused("select a order by b 'desc'", 20)
        self.refused("'select' a", 0)


class Queries(Base):
    def test_selects(self):
        self.question("select *", question(select()))
        self.question("select distinct a", question(select(A, distinct=True)))
        self.question("select a, b as n, c", question(select(A, (B, "n"), C)))
        self.question("select * from t where a group by b, c having d", question(
            select(source=table("t"), where=A, group=(B, C), having=D)))
        self.question("select a having b", question(select(A, having=B)))
        self.question("select a where b", question(select(A, where=B)))
        self.question("select a group by b + 1", question(select(A, group=(op("+", B, lit(1)),))))
        self.assertIs(parse("select a")[1][1], False)
        self.assertIs(parse("select distinct a")[1][1], True)

    def test_refused_selects(self):
        self.refused("", 0)
        self.refused(" \n", 2)
        self.refused("select")
        self.refused("select ")
        self.refused("selects a", 0)
        self.refused("a", 0)
        self.refused("select distinct")
        self.refused("select distinct distinct a", 16)
        self.refused("select *, a", 8)
        self.refused("select * as a", 9)
        self.refused("select a, *", 10)
        self.refused("select a,")
        self.refused("select a b", 9)
        self.refused("select a as")
        self.refused("select a as 1", 12)
        self.refused("select a as by", 12)
        self.refused("select a from", None)
        self.refused("select a from where b", 14)
        self.refused("select a where", None)
        self.refused("select a where b from t", 17)
        self.refused("select a group b", 15)
        self.refused("select a group by", None)
        self.refused("select a group by b,", None)
        self.refused("select a group by *", 18)
        self.refused("select a having b group by c", 18)
        self.refused("select a having b where c", 18)
        self.refused("select from t", 7)
        self.refused("select a from t where b where c", 24)

    def test_set_operators(self):
        a, b, c = select(A), select(B), select(C)
        for first, second in itertools.product(("union all", "union", "except", "intersect"), repeat=2):
            self.question(f"select a {first} select b {second} select c", question(
                ("set", second, ("set", first, a, b), c)))
            self.question(f"select a {first} (select b {second} select c)", question(
                ("set", first, a, ("set", second, b, c))))
            self.question(f"(select a {first} select b) {second} select c", question(
                ("set", second, ("set", first, a, b), c)))
        self.question("(select a)", question(a))
        self.question("((select a))", question(a))
        self.question("((select a) union (select b)) except (select c)", question(
            ("set", "except", ("set", "union", a, b), c)))
        self.refused("select a union", None)
        self.refused("select a union union select b", 15)
        self.refused("select a except all select b", 16)
        self.refused("select a union all all select b", 19)
        self.refused("select a union 1", 15)
        self.refused("(1)", 1)
        self.refused("(select a", None)
        self.refused("(select a))", 10)
        self.refused("()", 1)

    def test_sources(self):
        t, u, v = table("t"), table("u", "x"), ("subquery", select(A), "v")
        self.question("select * from t", question(select(source=t)))
        self.question("select * from u x", question(select(source=u)))
        self.question("select * from (select a) v", question(select(source=v)))
        self.question("select * from ((select a)) v", question(select(source=v)))
        self.question("select * from ((select a) union select b) v", question(select(
            source=("subquery", ("set", "union", select(A), select(B)), "v"))))
        self.question("select * from t join u x on a", question(select(source=("join", t, u, A, False))))
        self.question("select * from t left join u x on a", question(select(source=("join", t, u, A, True))))
        self.question("select * from t join u x on a or b left join (select a) v on c where d", question(select(
            source=("join", ("join", t, u, op("or", A, B), False), v, C, True), where=D)))
        self.refused("select * from t x y", 18)
        self.refused("select * from t as x", 16)
        self.refused("select * from t, u", 15)
        self.refused("select * from t join u", None)
        self.refused("select * from t join u x where a", 25)
        self.refused("select * from t left u on a", 21)
        self.refused("select * from t join u join v on a on b", 23)
        self.refused("select * from t join (u join v on a) on b", 22)
        self.refused("select * from (select a)", None)
        self.refused("select * from (select a) where b", 25)
        self.refused("select * from (t)", 15)
        self.refused("select * from t.u", 15)
        self.refused("select * from 'a'", 14)
        self.refused("select * from t left", None)

    def test_questions(self):
        self.question("select a order by a", question(select(A), ("a", False)))
        self.question("select a order by 1 desc, b, 0 desc limit 3", question(
            select(A), (1, True), ("b", False), (0, True), limit=3))
        self.question("select a limit 0", question(select(A), limit=0))
        self.question("select a union select b order by a limit 007", question(
            ("set", "union", select(A), select(B)), ("a", False), limit=7))
        self.question("(select a) order by a", question(select(A), ("a", False)))
        self.question("select * from t order by a", question(select(source=table("t")), ("a", False)))
        self.assertEqual(parse("select a")[2:], ((), None))

    def test_refused_questions(self):
        self.refused("(select a order by a)", 10)
        self.refused("select * from (select a limit 1) t", 24)
        self.refused("select (select a order by a)", 17)
        self.refused("select a order a", 15)
        self.refused("select a order by", None)
        self.refused("select a order by a,", None)
        self.refused("select a order by t.a", 19)
        self.refused("select a order by a + 1", 20)
        self.refused("select a order by - 1", 18)
        self.refused("select a order by 'a'", 18)
        self.refused("select a order by $1", 18)
        self.refused("select a order by a desc desc", 25)
        self.refused("select a limit", None)
        self.refused("select a limit a", 15)
        self.refused("select a limit $1", 15)
        self.refused("select a limit - 1", 15)
        self.refused("select a limit 1 1", 17)
        self.refused("select a limit 1 order by a", 17)
        self.refused("select a limit 1 limit 2", 17)
        self.refused("select a order by a where b", 20)
        self.refused("select a union select b order by a union select c", 35)
        self.refused("select 1 2", 9)
        self.refused("select a;", 8)

    def test_characters_are_asked_first(self):
        self.refused("by by ! $", 6)
        self.refused("select a from 'b", 14)
        self.refused("select ) " + "9" * 31, 9)
        self.refused("select a b $123 ", 11)

    def test_what_is_incomplete_ends_with_its_blanks(self):
        self.refused("select a +", 10)
        self.refused("select a + \n ", 13)
        self.refused("select (a \n", 11)


class Limits(Base):
    def test_tokens(self):
        text = "select " + "a, " * 59 + "a"
        self.assertEqual(len(tokenize(text)), 120)
        self.assertEqual(len(parse(text)[1][2]), 60)
        self.refused(text + ", a", len(text))
        self.refused(text + " as n", len(text) + 1)
        self.refused(text + " limit 1", len(text) + 1)
        self.refused(text + "\n select", len(text) + 2)
        self.refused(text[:-1] + "- a", len(text) + 1)
        self.refused(text[:-1] + "(a)", len(text))
        self.refused(text + " " + text, len(text) + 1)

    def test_the_last_token_leaves_a_question_incomplete(self):
        text = "select " + "a, " * 58 + "a +"
        self.assertEqual(len(tokenize(text)), 119)
        self.assertEqual(len(parse(text + " a")[1][2]), 59)
        self.refused(text, len(text))
        self.refused(text + " (", len(text) + 2)
        self.refused(text + " (a", len(text) + 2)
        self.refused("select " + "a, " * 60, len("select " + "a, " * 59 + "a"))

    def test_parentheses(self):
        self.told("(" * 12 + "a" + ")" * 12, A)
        self.refused("select " + "(" * 13 + "a" + ")" * 13, 19)
        self.refused("select " + "(" * 14, 19)
        self.refused("select " + "(" * 12, 19)
        self.told("(" * 12 + "a" + ")" * 12 + " + (b)", op("+", A, B))

    def test_cases(self):
        text, tree = "a", A
        for _ in range(12):
            text, tree = f"case when {text} then b else c end", ("case", tree, B, C)
        self.told(text, tree)
        self.refused(f"select case when {text} then b else c end", 7 + 12 * len("case when "))
        for place in ("case when {} then b else c end", "case when b then {} else c end",
                      "case when b then c else {} end"):
            text = place.format("(" * 11 + "a" + ")" * 11)
            self.expression(text)
            self.refused("select " + place.format("(" * 12 + "a" + ")" * 12), 7 + place.index("{") + 11)
        self.told("case when a then b else c end + " + "(" * 12 + "a" + ")" * 12, op("+", ("case", A, B, C), A))

    def test_nots(self):
        tree = A
        for _ in range(12):
            tree = ("not", tree)
        self.told("not " * 12 + "a", tree)
        self.refused("select " + "not " * 13 + "a", 7 + 48)
        self.told("not " * 12 + "a is not null", tree[:1] + (self.deeper(tree[1], ("is_null", A, True)),))
        self.expression("(" * 12 + "a is not null" + ")" * 12)
        self.refused("select " + "(" * 12 + "a not in (b)" + ")" * 12, 7 + 12 + 9)
        self.refused("select " + "(" * 12 + "a not in b" + ")" * 12, 7 + 12 + 9)
        self.expression("(" * 11 + "a not in (b)" + ")" * 11)

    def deeper(self, tree, inside):
        return inside if tree == A else (tree[0], self.deeper(tree[1], inside))

    def test_minuses(self):
        tree = A
        for _ in range(12):
            tree = ("negate", tree)
        self.told("-" * 12 + "a", tree)
        self.refused("select " + "-" * 13 + "a", 19)
        self.told("-" * 12 + "a - " + "-" * 12 + "a", op("-", tree, tree))
        self.expression("(" * 12 + "a - b" + ")" * 12)

    def test_the_operand_of_a_prefix_ends(self):
        deep = "(" * 12 + "b" + ")" * 12
        less = "(" * 11 + "b" + ")" * 11
        self.told("- a * " + deep, op("*", ("negate", A), B))
        self.told("- a = " + deep, op("=", ("negate", A), B))
        self.refused("select not a = " + deep, 15 + 11)
        self.told("not a = " + less, ("not", op("=", A, B)))
        self.told("not a and " + deep, op("and", ("not", A), B))
        self.told("not a or " + deep, op("or", ("not", A), B))
        self.refused("select not a in " + deep, 16 + 11)
        self.told("- t.a + " + deep, op("+", ("negate", col("a", "t")), B))
        self.question("select not a, " + deep, question(select(("not", A), B)))
        self.question("select not a from t where " + deep, question(select(("not", A), source=table("t"), where=B)))
        self.refused("select - count(" + "(" * 11, 7 + 8 + 10)
        self.told("- count(a) + " + deep, op("+", ("negate", ("aggregate", "count", A)), B))

    def test_kinds_of_places_together(self):
        self.expression("not -(" + "case when a then -(not b) else (c) end" + ")")
        opening = "not -(case when " * 3
        self.refused("select " + opening + "not a", 7 + len(opening))
        self.refused("select " + opening + "- a", 7 + len(opening))
        self.refused("select " + opening + "(a", 7 + len(opening))
        self.refused("select " + opening + "case", 7 + len(opening))
        self.refused("select " + opening + "a", None)
        self.refused("select " + opening + "count(a)", 7 + len(opening) + 5)
        self.refused("select " + opening + "exists (", 7 + len(opening) + 7)
        self.refused("select " + opening + "a in (", 7 + len(opening) + 5)
        self.refused("select " + opening + "a is not", None)

    def test_queries_in_parentheses(self):
        self.question("(" * 12 + "select a" + ")" * 12, question(select(A)))
        self.refused("(" * 13 + "select a" + ")" * 13, 12)
        self.refused("select a union " + "(" * 13, 15 + 12)
        self.refused("select * from " + "(" * 13, 14 + 12)
        self.refused("select a in " + "(" * 13, 12 + 12)
        self.refused("select count" + "(" * 13, 12 + 12)
        self.refused("select exists " + "(" * 13, 14 + 12)
        text = "select a"
        for _ in range(12):
            text = f"select ({text})"
        parse(text)
        self.refused(f"select ({text})", 12 * len("select (") + 7)

    def test_a_token_that_fits_neither_is_refused_where_it_stands(self):
        self.refused("select " + "(" * 12 + "a (", 7 + 12 + 2)
        self.refused("select " + "(" * 12 + ")", 7 + 12)


class AgainstTheGrammar(unittest.TestCase):
    """The position of random questions, whole and damaged, is what the rules of the grammar tell."""

    def test_random_questions(self):
        words = [word for options in GRAMMAR.values() for option in options for word in option]
        words = [word for word in words if word[0] != "@"] + ["(", "(", "case", "not", "-"]
        leaves = {"NAME": "a", "INTEGER": "1", "TEXT": "'a'", "PARAMETER": "$2"}
        told = {"whole": 0, "refused": 0, "long": 0, "deep": 0}
        for seed in range(1500):
            chance = random.Random(seed)
            parts = sentence(chance, chance.choice([30, 60, 200, 800]), chance.choice([0.3, 0.5, 0.6, 0.7]))[:250]
            for _ in range(chance.choice([0, 0, 1, 2])):
                place, many = chance.randrange(len(parts) + 1), chance.choice([0, 0, 1])
                word = chance.choice(words)
                parts = parts[:place] + [leaves.get(word, word)] * chance.choice([0, 1]) + parts[place + many:]
            if seed % 3 == 0:
                # Many of one opening stand where the first word of an expression may stand.
                parts = [parts[0]] + [chance.choice(["(", "-", "not", "case when"])] * chance.randrange(9, 14) + parts[1:]
            text = " ".join(parts)
            expected = refused_at(tokenize(text), len(text))
            try:
                parse(text)
                position = None
            except RefusedText as error:
                position = error.position
            self.assertEqual(position, expected, text)
            told["whole" if position is None else "refused"] += 1
            if position is not None and position < len(text):
                told["long"] += len(tokenize(text[:position])) == 120
                told["deep"] += text[:position].count("(") >= 9
        self.assertGreater(min(told.values()), 20, told)


if __name__ == "__main__":
    unittest.main()
