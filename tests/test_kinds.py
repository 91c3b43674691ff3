"""Points 60 to 69: the check of a question, its order, and the first error."""

import itertools
import unittest

from kithwhole.errors import (
    AggregateNotAllowed, AmbiguousColumn, ColumnCount, DuplicateSource, GroupingNotAllowed, KindMismatch, NotGrouped,
    NothingToShow, RowCount, UnknownColumn, UnknownParameter, UnknownPosition, UnknownTable,
)
from kithwhole.kinds import check, check_query, common, fits, kind_of
from kithwhole.parser import parse
from kithwhole.sources import Source

SOURCES = {
    "t": Source("t", ["id", "a", "b", "s"], ["text", "integer", "boolean", "text"], []),
    "u": Source("u", ["id", "a", "d"], ["text", "integer", "integer"], []),
    "v": Source("v", ["id", "e"], ["text", "boolean"], []),
}
KINDS = ["integer", "text", "boolean", "null"]
# An expression of each kind that uses no column.
OF_KIND = {"integer": "1", "text": "'x'", "boolean": "true", "null": "null"}
PARAMETERS = [5, "x", True, None]


class Base(unittest.TestCase):
    def told(self, text, expected, parameters=PARAMETERS):
        self.assertEqual(check(parse(text), SOURCES, parameters), expected, text)

    def kind(self, expression, expected, rest=""):
        self.told(f"select {expression} as x {rest}", [("x", expected)])

    def refused(self, text, error, told=None):
        with self.assertRaises(error, msg=text) as caught:
            check(parse(text), SOURCES, PARAMETERS)
        self.assertIs(type(caught.exception), error, text)
        attributes = list(vars(caught.exception).values())
        self.assertEqual(attributes, [] if told is None else [told], text)


class Kinds(Base):
    def test_kinds_of_values(self):
        told = [(None, "null"), (True, "boolean"), (False, "boolean"), (0, "integer"), (-10 ** 45, "integer"),
                ("", "text"), ("1", "text")]
        for value, kind in told:
            self.assertEqual(kind_of(value), kind)

    def test_kinds_that_fit(self):
        for first in KINDS:
            for second in KINDS:
                expected = first == second or "null" in (first, second)
                self.assertIs(fits(first, second), expected)
                if expected:
                    self.assertEqual(common(first, second), second if first == "null" else first)

    def test_leaves(self):
        for kind, text in OF_KIND.items():
            self.kind(text, kind)
        for number, kind in enumerate(["integer", "text", "boolean", "null"]):
            self.kind(f"${number + 1}", kind)
        self.told("select id, a, b, s from t", [("id", "text"), ("a", "integer"), ("b", "boolean"), ("s", "text")])

    def test_parameters(self):
        self.refused("select $0", UnknownParameter, 0)
        self.refused("select $5", UnknownParameter, 5)
        self.refused("select $99", UnknownParameter, 99)
        self.told("select $4", [("", "null")])
        with self.assertRaises(UnknownParameter) as caught:
            check(parse("select $1"), {}, [])
        self.assertEqual(caught.exception.number, 1)

    def operators(self, text, needed, result):
        """Each operand of the expression must fit the kind that is needed."""
        for first in KINDS:
            for second in KINDS:
                expression = text.format(OF_KIND[first], OF_KIND[second])
                operands = [first, second] if "{1}" in text else [first]
                if all(kind in (needed, "null") for kind in operands):
                    self.kind(expression, result)
                else:
                    self.refused("select " + expression, KindMismatch)

    def test_operators(self):
        for sign in ("+", "-", "*", "/", "mod"):
            self.operators("{0} " + sign + " {1}", "integer", "integer")
        self.operators("- {0}", "integer", "integer")
        self.operators("{0} || {1}", "text", "text")
        for sign in ("and", "or"):
            self.operators("{0} " + sign + " {1}", "boolean", "boolean")
        self.operators("not {0}", "boolean", "boolean")

    def test_what_must_fit(self):
        texts = ["{0} " + sign + " {1}" for sign in ("=", "<>", "<", "<=", ">", ">=")]
        texts += ["{0} in ({1})", "{0} not in ({0}, {1})", "{0} in (select {1})", "{0} not in (select {1})"]
        for text in texts:
            for first in KINDS:
                for second in KINDS:
                    expression = text.format(OF_KIND[first], OF_KIND[second])
                    if fits(first, second):
                        self.kind(expression, "boolean")
                    else:
                        self.refused("select " + expression, KindMismatch)

    def test_what_takes_any_kind(self):
        for text in OF_KIND.values():
            self.kind(f"{text} is null", "boolean")
            self.kind(f"{text} is not null", "boolean")
            self.kind(f"exists (select {text}, 1)", "boolean")
            self.kind(f"count({text})", "integer")

    def test_items_fit_the_operand_and_not_each_other(self):
        self.kind("null in (1, 'x', true)", "boolean")
        self.refused("select 1 in (null, 'x')", KindMismatch)
        self.refused("select 1 in ('x', nope)", UnknownColumn, "nope")
        self.refused("select nope in ('x', $9)", UnknownColumn, "nope")

    def test_case(self):
        for first in KINDS:
            for second in KINDS:
                text = f"case when null then {OF_KIND[first]} else {OF_KIND[second]} end"
                if fits(first, second):
                    self.kind(text, common(first, second))
                else:
                    self.refused("select " + text, KindMismatch)
        for kind in ("integer", "text"):
            self.refused(f"select case when {OF_KIND[kind]} then nope else nope end", KindMismatch)
        self.refused("select case when true then nope else $9 end", UnknownColumn, "nope")
        self.refused("select case when $9 then nope else nope end", UnknownParameter, 9)
        self.refused("select case when true then 1 else $9 end", UnknownParameter, 9)

    def test_aggregates(self):
        for kind, text in OF_KIND.items():
            self.kind(f"min({text})", kind)
            self.kind(f"max({text})", kind)
            if kind in ("integer", "null"):
                self.kind(f"sum({text})", "integer")
            else:
                self.refused(f"select sum({text})", KindMismatch)
        self.kind("count(*)", "integer")

    def test_operands_are_checked_first_from_left_to_right(self):
        for text in ("{0} + {1}", "{0} || {1}", "{0} and {1}", "{0} = {1}", "{0} in ({1})", "{0} in (select {1})"):
            self.refused("select " + text.format("one", "two"), UnknownColumn, "one")
            self.refused("select " + text.format("'x' - 1", "two"), KindMismatch)
            self.refused("select " + text.format("'x'", "two"), UnknownColumn, "two")
        self.refused("select - one", UnknownColumn, "one")
        self.refused("select not one", UnknownColumn, "one")
        self.refused("select one is null", UnknownColumn, "one")
        self.refused("select sum(one)", UnknownColumn, "one")


class InnerQueries(Base):
    def test_in_query(self):
        self.refused("select 1 in (select 1, 2)", ColumnCount)
        self.refused("select 1 in (select id, a from u)", ColumnCount)
        self.refused("select nope in (select 1, 2)", UnknownColumn, "nope")
        self.refused("select 1 in (select nope, 2)", UnknownColumn, "nope")
        self.refused("select 1 in (select 'x', 2)", ColumnCount)
        self.kind("'x' in (select * from (select s from t) q)", "boolean")

    def test_exists(self):
        self.kind("exists (select * from t)", "boolean")
        self.refused("select exists (select nope)", UnknownColumn, "nope")
        self.refused("select exists (select *)", NothingToShow)

    def test_scalar(self):
        self.kind("(select max(s) from t)", "text")
        self.kind("(select min(null))", "null")
        self.kind("(select count(*))", "integer")
        self.kind("(select 1 + sum(a) from t where b)", "integer")
        self.refused("select (select count(*), 1)", ColumnCount)
        self.refused("select (select 1, 2)", ColumnCount)
        self.refused("select (select nope, 2)", UnknownColumn, "nope")
        for query in ("select 1", "select a from t", "select * from (select a from t) q", "select distinct a from t",
                      "select count(*) from t group by a", "select count(*) from t having true",
                      "select 1 from t group by a", "select 1 having true", "select count(*) union select count(*)",
                      "select (select count(*)) from t", "select 1 in (select count(*))",
                      "select exists (select count(*))"):
            self.refused(f"select ({query})", RowCount)
        self.kind("(select case when count(*) in (1) then 1 else 2 end)", "integer")
        self.kind("(select max(a) is null from t)", "boolean")
        self.kind("(select count(*) in (select a from t) from t)", "boolean")
        self.kind("(select not - (count(*)) in (1, 2))", "boolean")


class Sources(Base):
    def test_names(self):
        self.told("select t.a, x.a from t join u x on true", [("a", "integer")] * 2)
        self.refused("select u.a from t join u x on true", UnknownColumn, "u.a")
        self.refused("select t.a from t x", UnknownColumn, "t.a")
        self.told("select u.a from t u", [("a", "integer")])
        self.refused("select * from nope", UnknownTable, "nope")
        self.refused("select * from nope x", UnknownTable, "nope")
        self.told("select t.e from v t", [("e", "boolean")])

    def test_star(self):
        self.told("select * from u", [("id", "text"), ("a", "integer"), ("d", "integer")])
        self.told("select * from u x join v on e", [
            ("id", "text"), ("a", "integer"), ("d", "integer"), ("id", "text"), ("e", "boolean")])
        self.told("select * from (select 1, a as n, null from t) q", [("", "integer"), ("n", "integer"), ("", "null")])

    def test_twice_the_same_name(self):
        self.refused("select 1 from t join t on true", DuplicateSource, "t")
        self.refused("select 1 from t join u t on true", DuplicateSource, "t")
        self.refused("select 1 from t u join u on true", DuplicateSource, "u")
        self.refused("select 1 from t x join (select 1) x on true", DuplicateSource, "x")
        self.refused("select 1 from t x join u y on true join v x on true", DuplicateSource, "x")
        self.told("select 1 from t x join t y on true join t on true", [("", "integer")])

    def test_the_order_in_a_join(self):
        self.refused("select 1 from one join two on three", UnknownTable, "one")
        self.refused("select 1 from t join two on three", UnknownTable, "two")
        self.refused("select 1 from t join t on three", DuplicateSource, "t")
        self.refused("select 1 from t join u on three", UnknownColumn, "three")
        self.refused("select 1 from (select one) x join (select two) x on three", UnknownColumn, "one")
        self.refused("select 1 from t x join (select two) x on three", UnknownColumn, "two")
        self.refused("select 1 from t join u on 1 join three on true", KindMismatch)
        self.refused("select 1 from t join u on true join u on nope", DuplicateSource, "u")

    def test_a_condition_must_be_a_boolean(self):
        for join in ("join", "left join"):
            self.refused(f"select 1 from t {join} u on 1", KindMismatch)
            self.refused(f"select 1 from t {join} u on t.s", KindMismatch)
            self.told(f"select 1 from t {join} u on null", [("", "integer")])
            self.told(f"select 1 from t {join} u on b", [("", "integer")])

    def test_a_condition_sees_the_two_sides(self):
        self.told("select 1 from t join u on d = 1 join v on e and b and d = 1", [("", "integer")])
        self.refused("select 1 from t join u on e join v on true", UnknownColumn, "e")
        self.refused("select 1 from t join u on t.a = a", AmbiguousColumn, "a")
        self.refused("select 1 from t join u on v.e join v on true", UnknownColumn, "v.e")
        self.told("select 1 from t join u on exists (select 1 from v where e = b) join v on true", [("", "integer")])
        self.refused("select 1 from t where exists (select 1 from u join u x on u.a = x.a and e join v on true)",
                     UnknownColumn, "e")
        self.told("select 1 from t where exists (select 1 from u join v on b and s = 'x')", [("", "integer")])


class Scopes(Base):
    def test_columns_of_the_selects_around(self):
        self.told("select 1 from t where exists (select 1 from u where d = t.a and b)", [("", "integer")])
        self.told("select (select max(b) from u) from t", [("", "boolean")])
        self.told("select a in (select a from u where t.a = u.a) from t", [("", "boolean")])
        self.told("select 1 from t where exists (select 1 from u where exists (select 1 from v where s = t.s and d = 1))",
                  [("", "integer")])
        self.refused("select e from t where exists (select e from v)", UnknownColumn, "e")

    def test_the_innermost_scope_decides(self):
        self.told("select 1 from t a where exists (select a from v a join (select true as a) q on a)", [("", "integer")])
        self.refused("select 1 from t where exists (select 1 from u x join u y on x.a = y.a where a = 1)",
                     AmbiguousColumn, "a")
        self.told("select 1 from u x join u y on true where exists (select a from t)", [("", "integer")])
        self.refused("select 1 from u x join u y on true where exists (select a from v)", AmbiguousColumn, "a")

    def test_a_source_that_only_an_outer_scope_has_with_the_column(self):
        self.told("select 1 from t x where exists (select x.b from u x)", [("", "integer")])
        self.told("select 1 from t x where exists (select x.d from u x)", [("", "integer")])
        self.refused("select 1 from t x where exists (select x.e from u x)", UnknownColumn, "x.e")
        self.told("select 1 from t where exists (select t.b from u)", [("", "integer")])
        self.refused("select 1 from t where exists (select t.d from u)", UnknownColumn, "t.d")

    def test_ambiguous_columns(self):
        self.refused("select a from t join u on true", AmbiguousColumn, "a")
        self.refused("select q.a from (select a, d as a from u) q", AmbiguousColumn, "a")
        self.refused("select a from (select a, d as a from u) q", AmbiguousColumn, "a")
        self.told("select q.d from (select a, d, 1 as a from u) q", [("d", "integer")])

    def test_a_query_in_from(self):
        self.told("select n from (select a as n from t) q", [("n", "integer")])
        self.refused("select 1 from t join (select t.a) q on true", UnknownColumn, "t.a")
        self.refused("select 1 from t join (select 1 from u where b) q on true", UnknownColumn, "b")
        self.told("select 1 from t where exists (select 1 from u join (select t.b) q on q.b)", [("", "integer")])
        self.refused("select 1 from t where exists (select 1 from u join (select u.d) q on true)", UnknownColumn, "u.d")
        self.told("select 1 from t where exists (select 1 from (select s) q)", [("", "integer")])
        self.refused("select a from (select b from t) q", UnknownColumn, "a")
        self.refused("select t.b from (select b from t) q", UnknownColumn, "t.b")

    def test_columns_without_a_name(self):
        self.told("select * from (select a + 1 from t) q", [("", "integer")])
        self.refused("select a from (select a + 1 from t) q", UnknownColumn, "a")


class Places(Base):
    def test_where_no_aggregate_may_stand(self):
        for aggregate in ("count(*)", "count(nope)", "sum('x')", "max(nope)"):
            self.refused(f"select 1 from t where {aggregate} = 1", AggregateNotAllowed)
            self.refused(f"select 1 from t join u on {aggregate} = 1", AggregateNotAllowed)
            self.refused(f"select 1 from t group by {aggregate}", AggregateNotAllowed)
            self.refused(f"select count({aggregate}) from t", AggregateNotAllowed)
            self.refused(f"select sum(1 + {aggregate}) from t", AggregateNotAllowed)
            self.refused(f"select 1 from t having count({aggregate}) = 1", AggregateNotAllowed)
            self.refused(f"select max(1 in ({aggregate})) from t", AggregateNotAllowed)
        self.refused("select 1 from t where 1 = nope and count(*) = 1", UnknownColumn, "nope")
        self.refused("select 1 from t where count(*) = nope", AggregateNotAllowed)

    def test_where_an_aggregate_may_stand(self):
        self.told("select count(*) from t having max(a) = 1", [("", "integer")])
        self.told("select case when count(*) = 1 then sum(a) else min(a) end from t", [("", "integer")])
        self.told("select 1 from t where a = (select count(*) from u)", [("", "integer")])
        self.told("select 1 from t join u on t.a = (select max(d) from u)", [("", "integer")])
        self.told("select sum((select count(*) from u)) from t", [("", "integer")])
        self.told("select max(exists (select count(*) from u having count(d) = 1)) from t", [("", "boolean")])
        self.told("select count(*) in (select count(*) from u) from t", [("", "boolean")])
        self.refused("select 1 in (select 1 from u where count(*) = 1) from t", AggregateNotAllowed)

    def test_an_aggregate_belongs_to_the_innermost_select(self):
        self.refused("select a, (select sum(a) from v) from t group by b", NotGrouped, "a")
        self.refused("select b, (select sum(a) from v) from t group by b", NotGrouped, "a")
        self.told("select a, (select sum(a) from v) from t group by a", [("a", "integer"), ("", "integer")])
        self.told("select a, (select count(*) from v) from t", [("a", "integer"), ("", "integer")])


class Grouping(Base):
    def test_the_order_in_a_select(self):
        self.refused("select one from nope where two group by three having four", UnknownTable, "nope")
        self.refused("select one from t where two group by three having four", UnknownColumn, "two")
        self.refused("select one from t where 1 group by three having four", KindMismatch)
        self.refused("select one from t where b group by three having four", UnknownColumn, "three")
        self.refused("select one from t where b group by a having four", UnknownColumn, "one")
        self.refused("select a from t where b group by a having four", UnknownColumn, "four")
        self.refused("select a from t where b group by a having a", KindMismatch)
        self.refused("select a, one from t where a", KindMismatch)
        self.told("select a from t where null group by a having null", [("a", "integer")])

    def test_groups_are_columns_of_the_select(self):
        self.refused("select 1 from t group by a + 1", GroupingNotAllowed)
        self.refused("select 1 from t group by 1", GroupingNotAllowed)
        self.refused("select 1 from t group by $1", GroupingNotAllowed)
        self.refused("select 1 from t group by a, (select max(d) from u)", GroupingNotAllowed)
        self.refused("select 1 from t group by 1, nope", UnknownColumn, "nope")
        self.refused("select 1 from t group by a + 1, count(*)", AggregateNotAllowed)
        self.refused("select nope from t group by a + 1", GroupingNotAllowed)
        self.refused("select 1 from t where exists (select 1 from v group by a)", GroupingNotAllowed)
        self.refused("select 1 from t where exists (select 1 from v group by e, t.a)", GroupingNotAllowed)
        self.told("select 1 from t group by a, t.a, b", [("", "integer")])
        self.refused("select 1 from t join u on true group by a", AmbiguousColumn, "a")

    def test_columns_that_are_not_grouped(self):
        self.refused("select b from t group by a", NotGrouped, "b")
        self.refused("select t.b from t group by a", NotGrouped, "b")
        self.refused("select a, count(*) from t", NotGrouped, "a")
        self.refused("select count(*), a from t", NotGrouped, "a")
        self.refused("select a from t having true", NotGrouped, "a")
        self.refused("select 1 from t group by a having b", NotGrouped, "b")
        self.refused("select count(*) from t having b", NotGrouped, "b")
        self.refused("select a + b from t group by a", NotGrouped, "b")
        self.refused("select b + nope from t group by a", NotGrouped, "b")
        self.refused("select nope + b from t group by a", UnknownColumn, "nope")
        self.told("select 1 from t having true", [("", "integer")])

    def test_however_it_is_written(self):
        self.told("select t.a, a from t group by a", [("a", "integer")] * 2)
        self.told("select a from t group by t.a having t.a = 1", [("a", "integer")])
        self.told("select x.a, y.a from t x join t y on true group by y.a, x.a", [("a", "integer")] * 2)
        self.refused("select x.a, y.a from t x join t y on true group by x.a", NotGrouped, "a")

    def test_inside_of_aggregates(self):
        self.told("select sum(a), count(b), max(s || s) from t", [("", "integer"), ("", "integer"), ("", "text")])
        self.told("select a, sum(t.a + 1) from t group by a having max(b)", [("a", "integer"), ("", "integer")])
        self.told("select max((select max(d) from u where u.a = t.a)) from t", [("", "integer")])
        self.told("select max(exists (select 1 from u group by d having d = t.a)) from t", [("", "boolean")])

    def test_in_a_query_inside(self):
        self.told("select exists (select 1 from u where d = t.a) from t group by a", [("", "boolean")])
        self.refused("select exists (select 1 from u where b) from t group by a", NotGrouped, "b")
        self.refused("select count(*), exists (select 1 from u where d = t.a) from t", NotGrouped, "a")
        self.refused("select 1 from t group by a having exists (select 1 from u join v on e = b)", NotGrouped, "b")
        self.refused("select 1 from t group by a having 1 in (select 1 from (select s) q)", NotGrouped, "s")
        self.told("select exists (select b from t) from t group by a", [("", "boolean")])
        self.refused("select exists (select d from u where u.a = t.a group by d having t.b) from t group by a",
                     NotGrouped, "b")
        self.refused("select exists (select d from u group by u.a) from t group by a", NotGrouped, "d")

    def test_the_place_of_the_error(self):
        self.refused("select exists (select nope from u where b) from t group by a", NotGrouped, "b")
        self.refused("select exists (select b from u where nope) from t group by a", UnknownColumn, "nope")
        self.refused("select b, nope from t group by a", NotGrouped, "b")
        self.refused("select nope, b from t group by a", UnknownColumn, "nope")

    def test_where_and_join_need_no_groups(self):
        self.told("select a from t join v on b where s = 'x' group by a", [("a", "integer")])
        self.told("select count(*) from t where exists (select 1 from u where d = t.a)", [("", "integer")])
        self.told("select a from t where b in (select b from v) group by a", [("a", "integer")])

    def test_nothing_to_show(self):
        self.refused("select *", NothingToShow)
        self.refused("select * where true", NothingToShow)
        self.refused("select * from t group by a", NothingToShow)
        self.refused("select * from t having true", NothingToShow)
        self.refused("select * from t group by a having nope", NothingToShow)
        self.refused("select * having nope", NothingToShow)
        self.refused("select * where nope", UnknownColumn, "nope")
        self.refused("select * where 1", KindMismatch)
        self.refused("select * from t group by nope", UnknownColumn, "nope")
        self.refused("select * from t group by 1", GroupingNotAllowed)
        self.refused("select * group by nope", UnknownColumn, "nope")


# An expression for each error that can stand in an expression, with what the error tells.
WRONG = [
    ("exists (select 1 from nope)", UnknownTable, "nope"), ("x.nope", UnknownColumn, "x.nope"),
    ("exists (select id from t join u on true)", AmbiguousColumn, "id"),
    ("exists (select 1 from t join t on true)", DuplicateSource, "t"),
    ("exists (select a from t group by b)", NotGrouped, "a"), ("$9", UnknownParameter, 9),
    ("1 + true", KindMismatch, None), ("1 in (select 1, 2)", ColumnCount, None), ("(select 1)", RowCount, None),
    ("exists (select sum(sum(1)))", AggregateNotAllowed, None),
    ("exists (select 1 from t group by 1)", GroupingNotAllowed, None), ("exists (select *)", NothingToShow, None),
]
# Two places of a select, the one that is checked first ahead.
ORDERED = [
    "select {0}, {1} from t q", "select {0} is null and {1} is null from t q", "select 1 in ({0} is null, {1}) from t q",
    "select case when {0} is null then {1} else 1 end from t q",
    "select {1} from (select {0}) q", "select {1} from t q where {0} is null", "select {1} from t q group by {0}",
    "select 1 from t q where {0} is null group by {1}", "select {0} from t q group by q.a having {1} is null",
    "select 1 from t q join u on {0} is null where {1} is null", "select {0} from t q order by nope",
    "select 1 from (select {0}) q join (select {1}) r on true", "select 1 from (select {0}) q join nope on true",
    "select 1 from t q join (select {0}) r on {1} is null", "select {0} union select {1}",
    "select count({0}), {1} from t q", "select exists (select {0}), {1}", "select max({0}) in (select {1}) from t q",
]


class FirstErrors(Base):
    """Each error beside each other one: the first in the told order is raised."""

    def test_all_pairs(self):
        for first, second in itertools.product(WRONG, repeat=2):
            for text in ORDERED:
                self.refused(text.format(first[0], second[0]), *first[1:])

    def test_the_sources_ahead_of_a_condition(self):
        for wrong in WRONG:
            self.refused(f"select 1 from t q join t q on {wrong[0]} is null", DuplicateSource, "q")
            self.refused(f"select 1 from nope join (select {wrong[0]}) q on true", UnknownTable, "nope")
            self.refused(f"select * where {wrong[0]} is null", *wrong[1:])
            self.refused(f"select * group by {wrong[0]}", *wrong[1:])
            self.refused(f"select * having {wrong[0]} is null", NothingToShow)
            self.refused(f"select count(*) from t where {wrong[0]} is null order by 9", *wrong[1:])
            self.refused(f"select 1, 2 union select {wrong[0]}", *wrong[1:])
            self.refused(f"select 1 from t where count({wrong[0]}) = 1", AggregateNotAllowed)
            self.refused(f"select case when 1 then {wrong[0]} else 1 end", KindMismatch)
            self.refused(f"select b from t group by a having {wrong[0]} is null", NotGrouped, "b")


class Results(Base):
    def test_names(self):
        self.told("select a, a as n, t.s, a + 1, -a, (a), 1, count(*) as m from t group by a, s", [
            ("a", "integer"), ("n", "integer"), ("s", "text"), ("", "integer"), ("", "integer"), ("a", "integer"),
            ("", "integer"), ("m", "integer")])
        self.told("select (select count(*) as n), exists (select 1) as a", [("", "integer"), ("a", "boolean")])

    def test_set_operators(self):
        for word in ("union", "union all", "except", "intersect"):
            self.told(f"select a as n, null from t {word} select 1 as m, 'x'", [("n", "integer"), ("", "text")])
            self.told(f"select null as n {word} select s from t", [("n", "text")])
            self.told(f"select s as n from t {word} select null", [("n", "text")])
            self.told(f"select null {word} select null", [("", "null")])
            self.refused(f"select 1 {word} select 1, 2", ColumnCount)
            self.refused(f"select 1, 'x' {word} select 'x'", ColumnCount)
            self.refused(f"select 1 {word} select 'x'", KindMismatch)
            self.refused(f"select 1, true {word} select 1, 2", KindMismatch)
            self.refused(f"select one {word} select two", UnknownColumn, "one")
            self.refused(f"select 1, 2 {word} select two", UnknownColumn, "two")
            self.refused(f"select 1 {word} select null {word} select 'x'", KindMismatch)
        self.told("select null union select 1 union select null", [("", "integer")])

    def test_set_operators_inside(self):
        self.told("select 1 from t where a in (select d from u union select t.a)", [("", "integer")])
        self.told("select n from (select a as n from t union select d from u) q", [("n", "integer")])
        self.refused("select d from (select a as n from t union select d from u) q", UnknownColumn, "d")

    def test_check_query(self):
        tree = parse("select a as n from t order by nope")
        self.assertEqual(check_query(tree[1], SOURCES, []), [("n", "integer")])
        with self.assertRaises(UnknownColumn):
            check(tree, SOURCES, [])


class Order(Base):
    def test_positions(self):
        self.told("select a, s from t order by 1, 2 desc, 1", [("a", "integer"), ("s", "text")])
        self.refused("select a, s from t order by 0", UnknownPosition, 0)
        self.refused("select a, s from t order by 3", UnknownPosition, 3)
        self.refused("select a, s from t order by 1, " + "9" * 30, UnknownPosition, int("9" * 30))

    def test_names(self):
        self.told("select a as n, s from t order by n, s desc", [("n", "integer"), ("s", "text")])
        self.refused("select a as n, s from t order by a", UnknownColumn, "a")
        self.refused("select a, 1 as a from t order by a", AmbiguousColumn, "a")
        self.told("select a, 1 as a from t order by 2", [("a", "integer")] * 2)
        self.told("select * from t order by b", [("id", "text"), ("a", "integer"), ("b", "boolean"), ("s", "text")])

    def test_from_left_to_right_and_last(self):
        self.refused("select a from t order by 2, nope", UnknownPosition, 2)
        self.refused("select a from t order by nope, 2", UnknownColumn, "nope")
        self.refused("select 1 + 'x' from t order by nope", KindMismatch)
        self.refused("select a from t union select s from t order by nope", KindMismatch)
        self.told("select a from t union select d from u order by a", [("a", "integer")])
        self.refused("select a from t union select d from u order by d", UnknownColumn, "d")

    def test_the_limit_is_not_checked(self):
        self.told("select a from t limit 0", [("a", "integer")])
        self.told("select a from t limit " + "9" * 30, [("a", "integer")])


if __name__ == "__main__":
    unittest.main()
