"""Points 70 to 78: what questions mean, in which order rows are made, and the answer."""

import unittest

from kithwhole.errors import KindMismatch, UnknownColumn
from kithwhole.meaning import answer, query_rows
from kithwhole.parser import parse
from kithwhole.sources import Source

BIG = 10 ** 40
SOURCES = {
    "t": Source("t", ["id", "a", "b", "s"], ["text", "integer", "boolean", "text"], [
        ("1", 3, True, "x"), ("2", 1, None, "y"), ("3", None, False, "x"), ("4", 1, True, None), ("5", 3, True, "x")]),
    "u": Source("u", ["id", "a", "d"], ["text", "integer", "integer"], [
        ("6", 1, 10), ("7", 3, 20), ("8", 3, 30), ("9", None, 40)]),
    "e": Source("e", ["id", "n", "f"], ["text", "integer", "boolean"], []),
    # The rows of a source may have values of several kinds in one column.
    "m": Source("m", ["x"], ["null"], [(1,), (True,), (0,), (False,), (None,), ("1",), (True,), (1,), (None,)]),
    "k": Source("k", ["x"], ["null"], [(True,), (0,), (None,)]),
    "big": Source("big", ["n"], ["integer"], [(BIG - 1,), (1,), (BIG + 5,), (-BIG,)]),
    "c": Source("c", ["b"], ["boolean"], [(True,), (False,), (None,)]),
}


class Base(unittest.TestCase):
    def rows(self, text, expected, parameters=()):
        """The rows in the order in which they are made; values are of the expected kinds, too."""
        told = query_rows(parse(text)[1], SOURCES, list(parameters))
        self.same(told, expected, text)

    def answered(self, text, expected, parameters=()):
        _, told = answer(parse(text), SOURCES, list(parameters))
        self.same(told, expected, text)

    def same(self, told, expected, text):
        self.assertEqual(told, expected, text)
        self.assertEqual(repr(told), repr(expected), text)

    def value(self, text, expected, parameters=()):
        self.rows("select " + text, [(expected,)], parameters)


class Values(Base):
    def test_leaves(self):
        self.value("1", 1)
        self.value("'x'", "x")
        self.value("null", None)
        self.value("true", True)
        self.value("false", False)
        self.value("$2", "b", [1, "b"])
        self.rows("select $1, $2, $1", [(True, None, True)], [True, None])

    def test_operators(self):
        self.value("7 / - 2", -3)
        self.value("- 7 mod 2", -1)
        self.value("- (7 mod 2)", -1)
        self.value("1 - 2 - 3", -4)
        self.value("2 + 3 * 4", 14)
        self.value("'a' || 'b' || ''", "ab")
        self.value("5 / 0", None)
        self.value("- null", None)
        self.value("- $1", None, [None])
        self.value("- 5", -5)
        self.value("$1 + 1", None, [BIG - 1])
        self.value("- - $1", BIG - 1, [BIG - 1])
        self.value("$1 || $1", "a" * 2000, ["a" * 1000])
        self.value("$1 || $1", None, ["a" * 1001])
        self.value("1 < 2 = true", True)
        self.value("null = null", None)
        self.value("'a' <= 'ab'", True)
        self.value("false < true", True)
        self.rows("select - n from big", [(1 - BIG,), (-1,), (None,), (None,)])

    def test_three_values(self):
        self.rows("select x.b, y.b, x.b and y.b, x.b or y.b, not x.b from c x join c y on true", [
            (True, True, True, True, False), (True, False, False, True, False), (True, None, None, True, False),
            (False, True, False, True, True), (False, False, False, False, True), (False, None, False, None, True),
            (None, True, None, True, None), (None, False, False, None, None), (None, None, None, None, None)])

    def test_is_null(self):
        self.value("null is null", True)
        self.value("null is not null", False)
        self.value("false is null", False)
        self.value("0 is not null", True)
        self.value("'' is null", False)

    def test_in_a_list(self):
        self.value("1 in (1)", True)
        self.value("1 in (2, 1)", True)
        self.value("1 in (2, 3)", False)
        self.value("1 in (2, null)", None)
        self.value("1 in (null, 1)", True)
        self.value("null in (1)", None)
        self.value("null in (null)", None)
        self.value("1 not in (1)", False)
        self.value("1 not in (2)", True)
        self.value("1 not in (2, null)", None)
        self.value("null not in (1)", None)
        self.value("1 not in (1, null)", False)

    def test_in_a_query(self):
        self.value("1 in (select a from t)", True)
        self.value("2 in (select a from t)", None)
        self.value("2 in (select a from t where a is not null)", False)
        self.value("null in (select a from t)", None)
        self.value("null in (select a from t where a is not null)", None)
        self.value("null in (select n from e)", False)
        self.value("1 in (select n from e)", False)
        self.value("1 not in (select a from t)", False)
        self.value("2 not in (select a from t)", None)
        self.value("2 not in (select d from u)", True)
        self.value("null not in (select n from e)", True)
        self.value("null not in (select d from u)", None)
        self.value("true in (select x from m)", True)
        self.value("0 in (select x from m where x = false)", False)

    def test_exists(self):
        self.value("exists (select 1 from t)", True)
        self.value("exists (select 1 from e)", False)
        self.value("exists (select null)", True)
        self.value("not exists (select 1 where null)", True)

    def test_case(self):
        self.rows("select case when b then 1 else 2 end from c", [(1,), (2,), (2,)])
        self.value("case when 1 = 2 then null else case when true then 'x' else 'y' end end", "x")

    def test_scalar(self):
        self.value("(select max(d) from u)", 40)
        self.value("(select count(*) from e)", 0)
        self.value("(select sum(n) from e)", None)
        self.value("(select min(d) from u where a = 3) + 1", 21)


class Correlated(Base):
    def test_a_query_is_asked_for_each_row(self):
        self.rows("select id, (select count(*) from u where u.a = t.a) from t", [
            ("1", 2), ("2", 1), ("3", 0), ("4", 1), ("5", 2)])
        self.rows("select id from t where exists (select 1 from u where u.a = t.a and d > 10)", [("1",), ("5",)])
        self.rows("select id from t where a in (select 1)", [("2",), ("4",)])
        self.rows("select id, a in (select d / 10 from u where u.a = t.a) from t", [
            ("1", True), ("2", True), ("3", False), ("4", True), ("5", True)])

    def test_several_scopes(self):
        self.rows("select id from t where exists (select 1 from u where u.a = t.a and exists "
                  "(select 1 from u x where x.a = u.a and x.d > u.d and t.b))", [("1",), ("5",)])

    def test_the_innermost_scope_decides(self):
        self.rows("select id from t where exists (select 1 from u where a = 1 and t.a = 3)", [("1",), ("5",)])
        self.rows("select x.id from t x where (select max(x.d) from u x where x.a = 3) = 30 and x.a = 1", [("2",), ("4",)])

    def test_in_from(self):
        self.rows("select id from t where 1 in (select q.z from (select t.a as z) q)", [("2",), ("4",)])
        self.rows("select id, (select max(q.z + v.d) from (select t.a as z) q join u v on v.a = q.z) from t", [
            ("1", 33), ("2", 11), ("3", None), ("4", 11), ("5", 33)])

    def test_in_a_condition_of_a_join(self):
        self.rows("select t.id, u.id from t join u on u.d = (select max(x.d) from u x where x.a = t.a)", [
            ("1", "8"), ("2", "6"), ("4", "6"), ("5", "8")])

    def test_in_groups(self):
        self.rows("select a, (select max(d) from u where u.a = t.a) from t group by a", [(3, 30), (1, 10), (None, None)])
        self.rows("select a, (select count(*) from u where u.a = t.a) + count(*) from t group by a "
                  "having exists (select 1 from u where u.a = t.a)", [(3, 4), (1, 3)])
        self.rows("select sum((select max(d) from u where u.a = t.a)) from t", [(80,)])
        self.rows("select a, max((select count(*) from u where u.a = t.a and t.b)) from t group by a", [
            (3, 2), (1, 1), (None, 0)])
        self.rows("select a, (select count(*) from (select t.a as z) q where q.z = 3) from t group by a", [
            (3, 1), (1, 0), (None, 0)])


class Sources(Base):
    def test_a_table_and_a_query(self):
        self.rows("select * from u", [("6", 1, 10), ("7", 3, 20), ("8", 3, 30), ("9", None, 40)])
        self.rows("select q.n from (select d + 1 as n from u) q", [(11,), (21,), (31,), (41,)])
        self.rows("select * from e", [])

    def test_no_sources(self):
        self.rows("select 1, 'x'", [(1, "x")])
        self.rows("select 1 where true", [(1,)])
        self.rows("select 1 where false", [])
        self.rows("select 1 where null", [])

    def test_joins(self):
        self.rows("select t.id, u.id from t join u on t.a = u.a", [
            ("1", "7"), ("1", "8"), ("2", "6"), ("4", "6"), ("5", "7"), ("5", "8")])
        self.rows("select * from c join c d on null", [])
        self.rows("select * from c join c d on d.b", [(True, True), (False, True), (None, True)])
        self.rows("select * from c join e on true", [])

    def test_left_joins(self):
        self.rows("select t.id, u.id, u.d from t left join u on t.a = u.a", [
            ("1", "7", 20), ("1", "8", 30), ("2", "6", 10), ("3", None, None), ("4", "6", 10), ("5", "7", 20),
            ("5", "8", 30)])
        self.rows("select * from c left join e on true", [
            (True, None, None, None), (False, None, None, None), (None, None, None, None)])
        self.rows("select * from e left join c on true", [])
        self.rows("select * from c left join c d on null", [(True, None), (False, None), (None, None)])

    def test_joins_of_joins(self):
        self.rows("select x.id, y.id, z.id from u x left join u y on y.d = x.d + 10 and x.a = 3 "
                  "left join u z on z.d = y.d", [
                      ("6", None, None), ("7", "8", "8"), ("8", "9", "9"), ("9", None, None)])
        self.rows("select x.id, y.id, z.id from u x left join u y on y.d = x.d + 10 and x.a = 3 "
                  "join u z on z.d = y.d", [("7", "8", "8"), ("8", "9", "9")])

    def test_where(self):
        self.rows("select id from t where b", [("1",), ("4",), ("5",)])
        self.rows("select id from t where not b", [("3",)])
        self.rows("select id from t where a < 3 or s = 'x'", [("1",), ("2",), ("3",), ("4",), ("5",)])
        self.rows("select id from t where a < 3 and s = 'y'", [("2",)])
        self.rows("select id from t where null", [])


class Groups(Base):
    def test_groups_stand_in_the_order_of_their_first_rows(self):
        self.rows("select a, count(*) from t group by a", [(3, 2), (1, 2), (None, 1)])
        self.rows("select s, b, count(*), sum(a) from t group by b, s", [
            ("x", True, 2, 6), ("y", None, 1, 1), ("x", False, 1, None), (None, True, 1, 1)])

    def test_rows_without_groups(self):
        self.rows("select count(*), count(a), sum(a), min(s), max(b) from t", [(5, 4, 8, "x", True)])
        self.rows("select count(*), count(n), sum(n), min(n), max(f) from e", [(0, 0, None, None, None)])
        self.rows("select count(*)", [(1,)])
        self.rows("select count(*) where false", [(0,)])
        self.rows("select 5 from e having true", [(5,)])
        self.rows("select count(*) from e group by n", [])
        self.rows("select 1 having count(*) = 2", [])

    def test_having(self):
        self.rows("select a from t group by a having count(*) = 2", [(3,), (1,)])
        self.rows("select a from t group by a having a > 1", [(3,)])
        self.rows("select a from t group by a having null", [])
        self.rows("select count(*) from t having count(*) > 9", [])
        self.rows("select sum(a) from t where a = 3 having max(b)", [(6,)])

    def test_true_is_not_one(self):
        self.rows("select x, count(*) from m group by x", [
            (1, 2), (True, 2), (0, 1), (False, 1), (None, 2), ("1", 1)])

    def test_sums(self):
        self.rows("select sum(n) from big", [(None,)])
        self.rows("select sum(n) from big where n < 2", [(1 - BIG,)])
        self.rows("select sum(n) from big where n < 0", [(None,)])
        self.rows("select sum(n) from big where n = 1", [(1,)])
        self.rows("select sum(n) from big where n <> 1 and n <= $1", [(-1,)], [BIG - 1])

    def test_a_sum_that_is_too_great_on_the_way(self):
        parameters = [BIG - 1, 1 - BIG]
        self.rows("select sum(n) from (select $1 as n union all select 5 union all select $2) q", [(5,)], parameters)
        self.rows("select sum(n) from (select $1 as n union all select 1) q", [(None,)], parameters)
        self.rows("select sum(n) from (select $1 as n union all select 0) q", [(BIG - 1,)], parameters)
        self.rows("select sum(n) from (select $2 as n union all select - 1) q", [(None,)], parameters)

    def test_least_and_greatest(self):
        self.rows("select min(b), max(b) from c", [(False, True)])
        self.rows("select min(s), max(s) from t", [("x", "y")])
        self.rows("select min(n), max(n) from big", [(-BIG, BIG + 5)])
        self.rows("select min(x), max(x), count(x) from m", [(False, "1", 7)])
        self.rows("select max(b) from c where b is null", [(None,)])

    def test_aggregates_of_expressions(self):
        self.rows("select sum(a + 1), count(a + null), max(case when b then a else 0 end) from t", [(12, 0, 3)])
        self.rows("select a + count(*) * 10, - max(a) from t group by a", [(23, -3), (21, -1), (None, None)])

    def test_distinct(self):
        self.rows("select distinct a from t", [(3,), (1,), (None,)])
        self.rows("select distinct s, b from t", [("x", True), ("y", None), ("x", False), (None, True)])
        self.rows("select distinct x from m", [(1,), (True,), (0,), (False,), (None,), ("1",)])
        self.rows("select distinct count(*) from t group by a", [(2,), (1,)])
        self.rows("select distinct * from k x join k y on true where x.x is null", [
            (None, True), (None, 0), (None, None)])


class SetOperators(Base):
    def test_union(self):
        self.rows("select a from t union all select a from u", [
            (3,), (1,), (None,), (1,), (3,), (1,), (3,), (3,), (None,)])
        self.rows("select a from t union select d from u union select 3", [
            (3,), (1,), (None,), (10,), (20,), (30,), (40,)])
        self.rows("select x from k union select x from m", [(True,), (0,), (None,), (1,), (False,), ("1",)])

    def test_except(self):
        self.rows("select a from t except select 1", [(3,), (None,)])
        self.rows("select a from t except select null", [(3,), (1,)])
        self.rows("select x from m except select x from k", [(1,), (False,), ("1",)])
        self.rows("select a from t except select n from e", [(3,), (1,), (None,)])

    def test_intersect(self):
        self.rows("select a from t intersect select a from u", [(3,), (1,), (None,)])
        self.rows("select x from m intersect select x from k", [(True,), (0,), (None,)])
        self.rows("select a from u intersect select a from t where a = 3", [(3,)])
        self.rows("select a, b from t intersect select 3, true", [(3, True)])

    def test_from_left_to_right(self):
        self.rows("select 1 union all select 1 except select 2", [(1,)])
        self.rows("select 1 union all (select 1 except select 2)", [(1,), (1,)])
        self.rows("select 1 except select 1 union all select 1", [(1,)])


class Answers(Base):
    def test_names_and_rows(self):
        self.assertEqual(answer(parse("select a as n, 1, id from u where d = 20"), SOURCES, []),
                         (["n", "", "id"], [(3, 1, "7")]))

    def test_without_keys_all_columns_sort(self):
        self.answered("select a, s from t", [(None, "x"), (1, None), (1, "y"), (3, "x"), (3, "x")])
        self.answered("select x from m", [(None,), (None,), (False,), (True,), (True,), (0,), (1,), (1,), ("1",)])

    def test_keys(self):
        self.answered("select a, id from t order by a", [(None, "3"), (1, "2"), (1, "4"), (3, "1"), (3, "5")])
        self.answered("select a, id from t order by a desc", [(3, "1"), (3, "5"), (1, "2"), (1, "4"), (None, "3")])
        self.answered("select a, id from t order by 1 desc, 2 desc", [
            (3, "5"), (3, "1"), (1, "4"), (1, "2"), (None, "3")])
        self.answered("select id, s, a from t order by s, a desc", [
            ("4", None, 1), ("1", "x", 3), ("5", "x", 3), ("3", "x", None), ("2", "y", 1)])
        self.answered("select x from m order by x desc", [
            ("1",), (1,), (1,), (0,), (True,), (True,), (False,), (None,), (None,)])

    def test_rows_that_tie_are_sorted_ascending_by_all_columns(self):
        self.answered("select s, a, id from t order by s desc", [
            ("y", 1, "2"), ("x", None, "3"), ("x", 3, "1"), ("x", 3, "5"), (None, 1, "4")])
        self.answered("select id, a from t order by a desc, a", [
            ("1", 3), ("5", 3), ("2", 1), ("4", 1), ("3", None)])

    def test_limits(self):
        self.answered("select id from u limit 0", [])
        self.answered("select id from u limit 2", [("6",), ("7",)])
        self.answered("select id from u order by 1 desc limit 1", [("9",)])
        self.answered("select id from u limit 99", [("6",), ("7",), ("8",), ("9",)])
        self.answered("select id from u limit " + "9" * 30, [("6",), ("7",), ("8",), ("9",)])

    def test_it_is_checked(self):
        for text, error in (("select nope from t", UnknownColumn), ("select 1 + 'x'", KindMismatch),
                            ("select a from t order by nope", UnknownColumn)):
            with self.assertRaises(error):
                answer(parse(text), SOURCES, [])

    def test_nothing_is_shared(self):
        source = Source("t", ["a"], ["integer"], [(1,), (2,)])
        for text in ("select * from t", "select a from t", "select * from t q"):
            told = query_rows(parse(text)[1], {"t": source}, [])
            told.clear()
            names, rows = answer(parse(text), {"t": source}, [])
            names.clear()
            rows.clear()
            self.assertEqual((source.columns, source.rows), (["a"], [(1,), (2,)]))


class Large(Base):
    def test_two_thousand_rows(self):
        rows = [(str(index), index % 7) for index in range(2000)]
        sources = {"t": Source("t", ["id", "a"], ["text", "integer"], rows)}
        self.assertEqual(len(query_rows(parse("select * from t")[1], sources, [])), 2000)
        _, told = answer(parse("select a, count(*), min(id) from t group by a order by 2 desc, 1"), sources, [])
        self.assertEqual(told[:2], [(0, 286, "0"), (1, 286, "1")])
        _, told = answer(parse("select distinct a from t union select a + 1 from t"), sources, [])
        self.assertEqual(told, [(value,) for value in range(8)])

    def test_deep_trees(self):
        tree = ("literal", True)
        for index in range(48):
            tree = ("not", tree) if index % 2 else ("binary", "and", ("literal", True), tree)
        query = ("select", False, ((("aggregate", "count", tree), None),), None, None, None, None)
        for _ in range(16):
            query = ("select", False, ((("aggregate", "max", ("scalar", query)), "n"),), None, None, None, None)
        for _ in range(4):
            query = ("set", "union", query, ("select", False, None, ("subquery", query, "q"), None, None, None))
        self.assertEqual(answer(("question", query, (), None), {}, []), (["n"], [(1,)]))


if __name__ == "__main__":
    unittest.main()
