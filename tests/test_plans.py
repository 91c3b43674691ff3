"""Points 127 to 129: the plan of a question, the rows of its steps, and how many they may be."""

import random
import unittest

from kithwhole.errors import NoPlan, QuestionError
from kithwhole.kinds import check
from kithwhole.meaning import query_rows
from kithwhole.parser import parse
from kithwhole.plans import plan_of, run, width
from kithwhole.sources import Source
from tests.plan_oracle import Plans, col
from tests.random_questions import Asker, make_sources
from tests.trees import lit, op, select, table

SOURCES = {
    "t": Source("t", ["id", "a", "b"], ["text", "integer", "boolean"],
                [("1", 1, True), ("2", 2, None), ("3", 1, False), ("4", None, True)]),
    "u": Source("u", ["id", "a"], ["text", "integer"], [("5", 2), ("6", 1), ("7", None), ("8", 1)]),
    "e": Source("e", ["id", "a"], ["text", "integer"], []),
}
T, U, E = ("scan", "t"), ("scan", "u"), ("scan", "e")


def planned(text):
    return plan_of(parse(text)[1], SOURCES)


def made(plan, *parameters):
    return run(plan, SOURCES, list(parameters))


class Forms(unittest.TestCase):
    def told(self, text, plan):
        self.assertEqual(planned(text), plan)

    def test_a_table_is_a_scan(self):
        self.told("select * from t", T)
        self.told("select * from t x", T)

    def test_the_list_is_a_pick(self):
        self.told("select b, t.id, 1 as k from t", ("pick", (col(2), col(0), lit(1)), T))

    def test_without_from(self):
        self.told("select 1, 'x'", ("pick", (lit(1), lit("x")), ("one",)))
        self.told("select 1 where true", ("pick", (lit(1),), ("keep", lit(True), ("one",))))

    def test_joins_count_the_left_columns_first(self):
        self.told("select * from t join u on t.a = u.a", ("join", op("=", col(1), col(4)), T, U))
        self.told("select * from t left join u on u.id is null", ("outer", ("is_null", col(3), False), T, U))
        self.told("select u.a from t join u on true join u v on v.id = t.id",
                  ("pick", (col(4),), ("join", op("=", col(5), col(0)), ("join", lit(True), T, U), U)))

    def test_a_query_in_from_has_its_plan(self):
        self.told("select q.m from u join (select b, a as m from t) q on q.m = u.a",
                  ("pick", (col(3),), ("join", op("=", col(3), col(1)), U, ("pick", (col(2), col(1)), T))))
        self.told("select m from (select a as m from u union select id from t) q",
                  ("pick", (col(0),), ("distinct", ("all", ("pick", (col(1),), U), ("pick", (col(0),), T)))))
        self.told("select * from (select * from t where b) q where a = 1",
                  ("keep", op("=", col(1), lit(1)), ("keep", col(2), T)))

    def test_where_list_and_distinct_stand_in_this_order(self):
        self.told("select distinct a from t where b", ("distinct", ("pick", (col(1),), ("keep", col(2), T))))
        self.told("select distinct * from t where b", ("distinct", ("keep", col(2), T)))

    def test_groups(self):
        self.told("select a, count(*) from t group by a",
                  ("group", (1,), (col(1), ("count_all",)), None, T))
        self.told("select max(a + 1), 2 from t", ("group", None, (("aggregate", "max", op("+", col(1), lit(1))), lit(2)),
                                                  None, T))
        self.told("select distinct b from t where a > 0 group by id, b having count(a) = 1",
                  ("distinct", ("group", (0, 2), (col(2),), op("=", ("aggregate", "count", col(1)), lit(1)),
                                ("keep", op(">", col(1), lit(0)), T))))
        self.told("select 1 from t having true", ("group", None, (lit(1),), lit(True), T))
        self.told("select x.a, a from t x group by a, x.a", ("group", (1, 1), (col(1), col(1)), None, T))

    def test_set_operators(self):
        a, b = ("pick", (col(1),), T), ("pick", (col(1),), U)
        self.told("select a from t union all select a from u", ("all", a, b))
        self.told("select a from t union select a from u", ("distinct", ("all", a, b)))
        self.told("select a from t except select a from u", ("except", a, b))
        self.told("select a from t intersect select a from u", ("intersect", a, b))
        self.told("select a from t except select a from u union select a from t", ("distinct", ("all", ("except", a, b), a)))

    def test_expressions_of_all_kinds(self):
        self.told("select not b, - a, a is not null, a in (1, a), case when b then a else $1 end, a + 1 < 2 or b from t",
                  ("pick", (("not", col(2)), ("negate", col(1)), ("is_null", col(1), True),
                            ("in_list", col(1), (lit(1), col(1)), False), ("case", col(2), col(1), ("parameter", 1)),
                            op("or", op("<", op("+", col(1), lit(1)), lit(2)), col(2))), T))

    def test_the_order_and_the_limit_have_no_step(self):
        self.told("select a from t order by a limit 1", ("pick", (col(1),), T))

    def test_there_is_no_plan_for_a_query_in_an_expression(self):
        for text in ("select 1 where exists (select 1)", "select a from t where a in (select a from u)",
                     "select (select max(a) from u) from t", "select 1 + (select max(a) from u) as k from t",
                     "select * from t join u on not exists (select 1)", "select a from t group by a having a in (select 1)",
                     "select * from (select 1 where exists (select 1)) q", "select 1 union select (select count(*) from t)",
                     "select case when true then 1 else (select max(a) from u) end",
                     "select max(a) from t having 1 in (2, (select max(a) from u))"):
            with self.subTest(text), self.assertRaises(NoPlan):
                planned(text)


class Widths(unittest.TestCase):
    def test_each_step(self):
        two = ("pick", (col(0), col(0)), T)
        for plan, many in ((T, 3), (U, 2), (("one",), 0), (("cross", T, U), 5), (("join", lit(True), U, U), 4),
                           (("match", ((0, 3),), T, U), 5), (("outer", lit(True), T, T), 6), (("keep", lit(True), T), 3),
                           (two, 2), (("pick", (), T), 0), (("distinct", U), 2), (("group", (0,), (col(0),), None, T), 1),
                           (("group", None, (), None, T), 0), (("all", U, two), 2), (("except", two, U), 2),
                           (("intersect", U, two), 2), (("cross", ("cross", T, ("one",)), ("distinct", two)), 5)):
            self.assertEqual(width(plan, SOURCES), many, plan)


class Rows(unittest.TestCase):
    def told(self, plan, rows, *parameters):
        self.assertEqual(repr(made(plan, *parameters)), repr(rows))

    def test_scan_and_one(self):
        self.told(T, SOURCES["t"].rows)
        self.told(E, [])
        self.told(("one",), [()])

    def test_a_scan_is_a_new_list(self):
        made(T).clear()
        self.assertEqual(len(SOURCES["t"].rows), 4)

    def test_cross(self):
        self.told(("cross", U, ("keep", op("=", col(1), lit(1)), T)), [
            row + other for row in SOURCES["u"].rows for other in [("1", 1, True), ("3", 1, False)]])
        self.told(("cross", ("one",), ("one",)), [()])
        self.told(("cross", T, E), [])
        self.told(("cross", E, T), [])

    def test_join(self):
        self.told(("join", op("=", col(1), col(4)), T, U), [
            ("1", 1, True, "6", 1), ("1", 1, True, "8", 1), ("2", 2, None, "5", 2), ("3", 1, False, "6", 1),
            ("3", 1, False, "8", 1)])

    def test_match(self):
        self.told(("match", ((1, 4),), T, U), made(("join", op("=", col(1), col(4)), T, U)))
        self.told(("match", ((1, 4), (1, 4)), T, U), made(("join", op("=", col(1), col(4)), T, U)))
        flags = ("pick", (col(2), lit(True)), T)
        ones = ("pick", (lit(1), lit(True)), ("one",))
        # True is not the same as 1, and None is the same as nothing.
        self.told(("match", ((0, 2),), flags, ones), [])
        self.told(("match", ((0, 3),), flags, ones), [(True, True, 1, True)] * 2)
        self.told(("match", ((1, 2), (0, 3)), ("pick", (lit(None), lit(1)), ("one",)), ones), [])
        self.told(("match", ((0, 1),), ("pick", (lit(None),), ("one",)), ("pick", (lit(None),), ("one",))), [])
        self.told(("match", ((1, 3), (0, 2)), U, U), [row + row for row in SOURCES["u"].rows if row[1]])

    def test_outer(self):
        self.told(("outer", op("=", col(1), col(3)), U, ("keep", col(2), T)), [
            ("5", 2, None, None, None), ("6", 1, "1", 1, True), ("7", None, None, None, None), ("8", 1, "1", 1, True)])
        self.told(("outer", lit(True), U, E), [row + (None, None) for row in SOURCES["u"].rows])
        self.told(("outer", lit(None), E, T), [])

    def test_keep(self):
        self.told(("keep", col(2), T), [("1", 1, True), ("4", None, True)])
        self.told(("keep", ("not", col(2)), T), [("3", 1, False)])
        self.told(("keep", op("=", col(1), ("parameter", 2)), U), [("5", 2)], 1, 2)
        self.told(("keep", lit(None), U), [])

    def test_pick(self):
        self.told(("pick", (op("+", col(1), lit(1)), col(0), ("parameter", 1)), U),
                  [(3, "5", "p"), (2, "6", "p"), (None, "7", "p"), (2, "8", "p")], "p")
        self.told(("pick", (), U), [(), (), (), ()])

    def test_distinct(self):
        self.told(("distinct", ("pick", (col(1),), U)), [(2,), (1,), (None,)])
        ones = ("all", ("pick", (lit(1),), ("one",)), ("pick", (lit(True),), ("one",)))
        self.told(("distinct", ("all", ones, ones)), [(1,), (True,)])

    def test_group(self):
        items = (("count_all",), col(1), ("aggregate", "max", col(0)))
        self.told(("group", (1,), items, None, U), [(1, 2, "5"), (2, 1, "8"), (1, None, "7")])
        having = op(">", ("count_all",), lit(1))
        self.told(("group", (1,), items, having, U), [(2, 1, "8")])
        self.told(("group", (), (("count_all",),), None, U), [(4,)])
        self.told(("group", (1, 2), (col(2), col(1)), None, T), [(True, 1), (None, 2), (False, 1), (True, None)])
        self.told(("group", (1,), (lit(1),), ("is_null", col(1), False), U), [(1,)])

    def test_a_group_over_no_rows(self):
        self.told(("group", None, (("count_all",), ("aggregate", "sum", col(1))), None, E), [(0, None)])
        self.told(("group", None, (("count_all",),), op(">", ("count_all",), lit(0)), E), [])
        self.told(("group", (1,), (("count_all",),), None, E), [])
        self.told(("group", (), (("count_all",),), None, E), [])

    def test_all_except_intersect(self):
        a, b = ("pick", (col(1),), T), ("pick", (col(1),), U)
        self.told(("all", a, b), [(1,), (2,), (1,), (None,), (2,), (1,), (None,), (1,)])
        one = ("keep", op("=", col(0), lit(1)), b)
        self.told(("except", a, one), [(2,), (None,)])
        self.told(("intersect", a, one), [(1,)])
        self.told(("intersect", b, a), [(2,), (1,), (None,)])


def many(name, rows):
    return Source(name, ["id", "n"], ["text", "integer"], [(str(n), n) for n in range(rows)])


class Bounds(unittest.TestCase):
    """Point 129: each step makes at most 2000 rows."""

    SOURCES = {"k": many("k", 2000), "m": many("m", 2001), "f": many("f", 40), "g": many("g", 50), "o": many("o", 1),
               "s": many("s", 1000), "h": many("h", 1001), "z": many("z", 0), "c": many("c", 3), "d": many("d", 667)}

    def few(self, plan, rows=2000):
        self.assertEqual(len(run(plan, self.SOURCES, [])), rows)

    def more(self, plan):
        with self.assertRaises(NoPlan):
            run(plan, self.SOURCES, [])

    def test_scan(self):
        self.few(("scan", "k"))
        self.more(("scan", "m"))
        self.more(("keep", lit(False), ("scan", "m")))

    def test_cross(self):
        self.few(("cross", ("scan", "f"), ("scan", "g")))
        self.few(("cross", ("scan", "k"), ("scan", "o")))
        f = ("all", ("scan", "f"), ("scan", "o"))
        self.more(("cross", f, ("scan", "g")))
        self.more(("keep", lit(False), ("cross", f, ("scan", "g"))))

    def test_a_step_that_is_not_needed_counts(self):
        self.more(("cross", ("scan", "z"), ("scan", "m")))
        self.more(("cross", ("scan", "m"), ("scan", "z")))
        self.more(("intersect", ("scan", "z"), ("scan", "m")))
        self.more(("outer", lit(True), ("scan", "z"), ("scan", "m")))

    def test_only_the_rows_that_a_join_makes_count(self):
        s = ("scan", "s")
        self.few(("join", op("=", col(1), col(3)), s, s), 1000)
        self.few(("match", ((1, 3),), s, s), 1000)
        self.few(("outer", op("=", col(1), col(3)), ("scan", "g"), s), 50)
        two = ("all", s, s)
        self.few(("match", ((1, 3),), s, two))
        self.few(("match", ((1, 3),), two, s))
        self.few(("join", op("=", col(1), col(3)), ("scan", "f"), ("all", ("scan", "g"), ("scan", "g"))), 80)
        self.more(("match", ((1, 3),), two, two))
        self.few(("join", lit(True), ("scan", "f"), ("scan", "g")))
        self.more(("join", lit(True), ("scan", "g"), ("all", ("scan", "f"), ("scan", "o"))))
        rows = ("all", ("scan", "f"), ("scan", "o"))
        self.few(("outer", lit(True), ("scan", "f"), ("scan", "g")))
        self.more(("outer", lit(True), ("scan", "g"), rows))
        self.few(("outer", lit(False), ("scan", "k"), ("scan", "g")))

    def test_exactly_2001_rows(self):
        c, d = ("scan", "c"), ("scan", "d")
        for plan in (("cross", c, d), ("cross", d, c), ("join", lit(True), c, d), ("outer", lit(True), c, d)):
            self.more(plan)
        self.few(("join", op("<", op("+", col(1), col(3)), lit(668)), c, d), 2000)
        self.few(("outer", op("<", op("+", col(1), col(3)), lit(668)), c, d), 2000)
        s, o = ("scan", "s"), ("scan", "o")
        almost = ("all", s, ("keep", op(">", col(1), lit(0)), s))
        self.few(("match", ((1, 3),), ("all", s, o), almost))
        self.more(("match", ((1, 3),), ("all", ("all", s, o), o), almost))

    def test_all(self):
        self.few(("all", ("scan", "s"), ("scan", "s")))
        self.more(("all", ("scan", "s"), ("scan", "h")))
        self.more(("distinct", ("all", ("scan", "s"), ("scan", "h"))))

    def test_steps_above_as_many_rows(self):
        k = ("scan", "k")
        for plan in (("keep", lit(True), k), ("pick", (col(1),), k), ("distinct", k), ("group", (1,), (col(1),), None, k),
                     ("except", k, ("scan", "z")), ("intersect", k, k), ("outer", lit(True), k, ("scan", "z"))):
            self.few(plan)


class Random(unittest.TestCase):
    def test_the_plan_of_a_query_makes_its_rows(self):
        planned_many = refused = 0
        for seed in range(2500):
            chance = random.Random(seed)
            sources = make_sources(chance, 4)
            asker = Asker(chance, 0, chance.choice([2, 3]))
            tree, parameters = asker.question(), asker.parameters
            try:
                check(tree, sources, parameters)
            except QuestionError:
                continue
            before = repr([source.rows for source in sources.values()])
            has_query = any(word in repr(tree) for word in ("'exists'", "'scalar'", "'in_query'"))
            try:
                plan = plan_of(tree[1], sources)
            except NoPlan:
                self.assertTrue(has_query)
                refused += 1
                continue
            self.assertFalse(has_query)
            rows = repr(run(plan, sources, parameters))
            self.assertEqual(rows, repr(query_rows(tree[1], sources, parameters)))
            oracle = Plans(sources, parameters)
            self.assertEqual(rows, repr(oracle.rows(plan)))
            self.assertEqual(width(plan, sources), oracle.width(plan))
            self.assertEqual(repr([source.rows for source in sources.values()]), before)
            planned_many += 1
        self.assertGreater(planned_many, 500)
        self.assertGreater(refused, 200)

    def test_deep_queries(self):
        query = select(source=table("t"))
        for _ in range(100):
            query = select(source=("subquery", query, "t"), where=op("=", ("column", None, "a"), lit(1)), distinct=True)
        plan = plan_of(query, SOURCES)
        self.assertEqual(made(plan), [("1", 1, True), ("3", 1, False)])
        source = table("t", "x0")
        for place in range(1, 101):
            source = ("join", source, table("t", f"x{place}"), op("=", ("column", f"x{place}", "id"), lit("2")), False)
        plan = plan_of(select(("column", "x0", "a"), source=source), SOURCES)
        self.assertEqual(made(plan), [(1,), (2,), (1,), (None,)])


if __name__ == "__main__":
    unittest.main()
