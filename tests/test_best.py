"""Point 133: the table of costs, which way is taken, the plan that the table tells, and spoilt tables."""

import random
import unittest

from kithwhole.best import best, best_plan, judge_best
from kithwhole.errors import NoPlan
from kithwhole.parser import parse
from kithwhole.plans import plan_of, run
from kithwhole.sources import Source
from kithwhole.values import row_key
from tests.plan_oracle import Table, col
from tests.trees import lit, op


def many(name, rows, turn=1):
    return Source(name, ["id", "n"], ["text", "integer"], [(str(n), n // turn) for n in range(rows)])


SOURCES = {name: many(name, rows) for name, rows in (
    ("a", 2), ("b", 3), ("c", 5), ("z", 0), ("k", 2000), ("m", 2001), ("f", 40), ("g", 50), ("h", 51), ("o", 1))}
SOURCES["w"] = Source("w", ["id", "n", "x"], ["text", "integer", "boolean"],
                      [("0", 0, True), ("1", 1, None), ("2", None, False), ("3", 1, True)])
A, B, C, W, O = [("scan", name) for name in "abcwo"]
YES, NO = lit(True), lit(False)


def told(plan, *parameters):
    return best(plan, SOURCES, list(parameters))


def crossed(*plans):
    plan = plans[0]
    for each in plans[1:]:
        plan = ("cross", plan, each)
    return plan


class Tables(unittest.TestCase):
    def test_one_scan(self):
        self.assertEqual(told(A), {(0,): (2, 0, None)})
        self.assertEqual(told(("keep", op("=", col(1), lit(1)), A)), {(0,): (1, 0, None)})
        self.assertEqual(told(("keep", NO, ("keep", YES, A))), {(0,): (0, 0, None)})
        self.assertEqual(told(("scan", "z")), {(0,): (0, 0, None)})

    def test_two_scans(self):
        self.assertEqual(told(("cross", A, B)), {(0,): (2, 0, None), (1,): (3, 0, None), (0, 1): (6, 6, (0,))})
        self.assertEqual(told(("join", op("=", col(1), col(3)), B, A)),
                         {(0,): (3, 0, None), (1,): (2, 0, None), (0, 1): (2, 6, (0,))})

    def test_the_cost_is_that_of_the_cheapest_way(self):
        plan = ("join", op("=", col(3), col(5)), ("cross", B, A), C)
        # A and C together have two rows, and are looked at first.
        self.assertEqual(told(plan), {
            (0,): (3, 0, None), (1,): (2, 0, None), (2,): (5, 0, None), (0, 1): (6, 6, (0,)), (0, 2): (15, 15, (0,)),
            (1, 2): (2, 10, (1,)), (0, 1, 2): (6, 16, (0,))})

    def test_among_equal_costs_the_least_first_group(self):
        # Each way to three scans of two rows costs the same.
        table = told(crossed(A, A, A))
        self.assertEqual(table[(0, 1, 2)], (8, 12, (0,)))
        # Here the cheapest ways begin with (0, 1) or with (2,); (0,) and (0, 2) cost more.
        plan = ("join", op("=", col(1), col(3)), B, C)
        table = told(("cross", plan, ("cross", A, A)))
        self.assertEqual(table[(0, 1)], (3, 15, (0,)))
        self.assertEqual(table[(0, 1, 2)], (6, 21, (0, 1)))
        self.assertEqual(table[(0, 1, 2, 3)], (12, 31, (0, 1)))

    def test_a_tuple_that_is_a_beginning_is_less(self):
        # (0,) with (1, 2), and (0, 1) with (2,), cost the same.
        same = told(("join", op("=", col(3), col(5)), ("join", op("=", col(1), col(3)), A, A), A))
        self.assertEqual(same[(0, 1)], (2, 4, (0,)))
        self.assertEqual(same[(1, 2)], (2, 4, (1,)))
        self.assertEqual(same[(0, 1, 2)], (2, 8, (0,)))

    def test_conditions_of_one_scan_and_of_none(self):
        plan = ("keep", op("=", col(3), lit(1)), ("join", ("parameter", 1), B, C))
        self.assertEqual(told(plan, True), {(0,): (3, 0, None), (1,): (1, 0, None), (0, 1): (3, 3, (0,))})
        # A condition that uses no column is asked of every scan.
        self.assertEqual(told(plan, False), {(0,): (0, 0, None), (1,): (0, 0, None), (0, 1): (0, 0, (0,))})
        self.assertEqual(told(plan, None)[(0, 1)], (0, 0, (0,)))

    def test_conditions_below_are_counted_from_their_own_plan(self):
        low = ("keep", op("<", col(1), lit(2)), C)
        plan = ("cross", B, ("join", op("=", col(1), col(3)), low, ("keep", op(">", col(1), lit(0)), B)))
        self.assertEqual(told(plan), {
            (0,): (3, 0, None), (1,): (2, 0, None), (2,): (2, 0, None), (0, 1): (6, 6, (0,)), (0, 2): (6, 6, (0,)),
            (1, 2): (1, 4, (1,)), (0, 1, 2): (3, 7, (0,))})

    def test_a_condition_of_three_scans(self):
        plan = ("keep", op("=", op("+", col(1), col(3)), col(5)), crossed(A, B, C))
        table = told(plan)
        self.assertEqual((table[(0, 1)][0], table[(0, 2)][0], table[(1, 2)][0]), (6, 10, 15))
        self.assertEqual(table[(0, 1, 2)], (6, 36, (0, 1)))

    def test_columns_of_other_widths(self):
        plan = ("keep", op("and", col(4), op("=", col(1), col(6))), ("cross", ("cross", A, W), B))
        self.assertEqual(told(plan)[(0, 1, 2)][0], 4)
        plan = ("keep", op("=", col(1), col(6)), ("keep", col(4), ("cross", ("cross", A, W), B)))
        self.assertEqual(told(plan)[(1,)], (2, 0, None))

    def test_groups_that_are_not_told(self):
        f, g, h = ("scan", "f"), ("scan", "g"), ("scan", "h")
        self.assertEqual(told(("cross", f, g))[(0, 1)], (2000, 2000, (0,)))
        with self.assertRaises(NoPlan):
            told(("cross", f, h))
        # f and h together are not told, but both are with the one row of o.
        plan = ("keep", op("and", op("=", col(1), col(3)), op("=", col(3), col(5))), crossed(f, O, h))
        with self.assertRaises(NoPlan):
            told(plan)
        plan = ("keep", op("=", col(1), col(3)), ("keep", op("=", col(3), col(5)), crossed(f, O, h)))
        table = told(plan)
        self.assertNotIn((0, 2), table)
        self.assertEqual(table, {
            (0,): (40, 0, None), (1,): (1, 0, None), (2,): (51, 0, None), (0, 1): (1, 40, (0,)), (1, 2): (1, 51, (1,)),
            (0, 1, 2): (1, 91, (0,))})

    def test_a_group_is_told_up_to_2000_pairs(self):
        k, o2 = ("scan", "k"), ("cross", O, O)
        self.assertEqual(told(("cross", k, O))[(0, 1)], (2000, 2000, (0,)))
        self.assertEqual(told(("cross", k, o2))[(0, 1, 2)], (2000, 2001, (0,)))
        with self.assertRaises(NoPlan):
            told(("cross", k, A))
        plan = ("keep", op("=", op("+", col(1), col(3)), lit(0)), ("cross", k, A))
        with self.assertRaises(NoPlan):
            told(plan)
        sources = {"d": many("d", 667), "b": many("b", 3), "e": many("e", 666)}
        with self.assertRaises(NoPlan):
            best(("cross", ("scan", "d"), ("scan", "b")), sources, [])
        self.assertEqual(best(("cross", ("scan", "e"), ("scan", "b")), sources, [])[(0, 1)], (1998, 1998, (0,)))

    def test_a_scan_of_more_than_2000_rows(self):
        m = ("scan", "m")
        self.assertEqual(told(("scan", "k")), {(0,): (2000, 0, None)})
        for plan in (m, ("keep", NO, m), ("keep", op("=", col(1), lit(1)), m), ("cross", ("scan", "z"), m)):
            with self.assertRaises(NoPlan):
                told(plan)
            with self.assertRaises(NoPlan):
                best_plan(plan, SOURCES, [])
            with self.assertRaises(NoPlan):
                judge_best(plan, SOURCES, [], {})

    def test_five_scans_and_no_more(self):
        table = told(crossed(A, A, A, A, A))
        self.assertEqual(len(table), 31)
        self.assertEqual(table[(0, 1, 2, 3, 4)][0], 32)
        with self.assertRaises(NoPlan):
            told(crossed(A, A, A, A, A, O))

    def test_other_steps(self):
        for plan in (("one",), ("cross", A, ("one",)), ("pick", (col(0), col(1)), A), ("distinct", A), ("all", A, A),
                     ("match", ((0, 2),), A, A), ("outer", YES, A, A), ("group", (0,), (col(0),), None, A),
                     ("except", A, A), ("intersect", A, A), ("keep", YES, ("cross", A, ("distinct", A)))):
            for function in (best, best_plan):
                with self.assertRaises(NoPlan):
                    function(plan, SOURCES, [])
            with self.assertRaises(NoPlan):
                judge_best(plan, SOURCES, [], {})

    def test_nothing_is_changed_or_shared(self):
        plan = ("join", op("=", col(1), col(3)), A, B)
        before = repr(SOURCES["a"].rows)
        told(plan).clear()
        self.assertEqual(len(told(plan)), 3)
        self.assertEqual(repr(SOURCES["a"].rows), before)


class Plans(unittest.TestCase):
    def told(self, plan, made, *parameters):
        self.assertEqual(best_plan(plan, SOURCES, list(parameters)), made)

    def test_one_scan(self):
        self.told(A, ("pick", (col(0), col(1)), A))
        x, y = op("=", col(1), lit(1)), op("<", col(1), lit(9))
        self.told(("keep", x, ("keep", y, A)), ("pick", (col(0), col(1)), ("keep", x, ("keep", y, A))))

    def test_conditions_stand_where_they_can_be_asked_first(self):
        x = op("=", col(1), col(3))
        own, other = op(">", col(1), lit(0)), op(">", col(3), lit(0))
        plan = ("keep", other, ("keep", own, ("join", x, A, B)))
        self.told(plan, ("pick", (col(0), col(1), col(2), col(3)), (
            "keep", x, ("cross", ("keep", own, A), ("keep", own, B)))))

    def test_the_condition_that_is_read_first_stands_lowest(self):
        one, two, three = [op("<", col(1), op("+", col(3), lit(number))) for number in (1, 2, 3)]
        plan = ("keep", three, ("keep", two, ("join", one, A, B)))
        self.told(plan, ("pick", (col(0), col(1), col(2), col(3)), (
            "keep", three, ("keep", two, ("keep", one, ("cross", A, B))))))
        # Those of the left plan are read before those of the right one, and both before that of the join.
        yes = [("parameter", number) for number in (1, 2, 3)]
        plan = ("join", yes[2], ("keep", yes[0], O), ("keep", yes[1], O))
        each = ("keep", yes[2], ("keep", yes[1], ("keep", yes[0], O)))
        self.told(plan, ("pick", (col(0), col(1), col(2), col(3)), ("cross", each, each)), True, True, True)

    def test_the_scans_stand_as_the_table_tells(self):
        # The second and the third scan come first, and the columns come back into their old order.
        x = op("=", col(3), col(5))
        plan = ("join", x, ("cross", B, A), C)
        self.told(plan, ("pick", tuple(map(col, range(6))), (
            "cross", B, ("keep", op("=", col(1), col(3)), ("cross", A, C)))))
        x = op("=", col(1), col(5))
        plan = ("join", x, ("cross", B, A), C)
        self.assertEqual(told(plan)[(0, 1, 2)], (6, 21, (0, 2)))
        self.told(plan, ("pick", tuple(map(col, (0, 1, 4, 5, 2, 3))), (
            "cross", ("keep", op("=", col(1), col(3)), ("cross", B, C)), A)))

    def test_a_condition_of_all_scans_names_the_columns_where_they_stand(self):
        x, y = op("=", col(1), col(5)), op("=", op("+", col(1), col(3)), col(5))
        plan = ("keep", y, ("join", x, ("cross", B, A), C))
        self.told(plan, ("pick", tuple(map(col, (0, 1, 4, 5, 2, 3))), (
            "keep", op("=", op("+", col(1), col(5)), col(3)), (
                "cross", ("keep", op("=", col(1), col(3)), ("cross", B, C)), A))))

    def test_the_plan_of_a_question(self):
        query = parse("select * from a x join b y on x.n = y.n join c on c.n = y.n where x.id < '3'")[1]
        plan = plan_of(query, SOURCES)
        made = best_plan(plan, SOURCES, [])
        self.assertEqual(sorted(run(made, SOURCES, [])), sorted(run(plan, SOURCES, [])))


class Judging(unittest.TestCase):
    PLAN = ("join", op("=", col(3), col(5)), ("cross", B, A), C)

    def judged(self, change, expected=False):
        table = told(self.PLAN)
        change(table)
        self.assertIs(judge_best(self.PLAN, SOURCES, [], table), expected)

    def test_the_table_itself(self):
        self.judged(lambda table: None, True)
        turned = dict(reversed(list(told(self.PLAN).items())))
        self.assertIs(judge_best(self.PLAN, SOURCES, [], turned), True)

    def test_tables_that_are_spoilt(self):
        def put(group, value):
            return lambda table: table.update({group: value})

        for change in (
            put((1, 2), (2, 11, (1,))), put((1, 2), (3, 10, (1,))), put((1, 2), (2, 10, (2,))), put((1, 2), (2, 10, None)),
            put((0,), (3, 0, (0,))), put((0,), (3, False, None)), put((0,), (3, 0)), put((0,), [3, 0, None]),
            put((0, 1, 2), (6, 16, (0, 1))), put((0, 1, 2), (6, 16, [0])), put((0, 1, 2), (6, 16, 0)),
            put((3,), (1, 0, None)), put((), (1, 0, None)), put((2, 1), (2, 10, (1,))), put(None, None), put("0", (3, 0, None)),
            put((0, 1), (6, 6, (False,))), put((0,), None), put((1,), (2, 0, ())), put((1,), (2.0, 0, None)),
            lambda table: table.pop((0, 1)), lambda table: table.pop((0,)), lambda table: table.clear(),
        ):
            self.judged(change)

    def test_other_kinds(self):
        table = told(self.PLAN)
        for spoilt in (None, [], list(table.items()), tuple(table.items()), 3, "table", {}):
            self.assertIs(judge_best(self.PLAN, SOURCES, [], spoilt), False)

    def test_keys_of_other_kinds(self):
        table = told(self.PLAN)
        spoilt = {(False if group == (0,) else 0,) if group == (0,) else group: value for group, value in table.items()}
        self.assertEqual(spoilt, table)
        self.assertIs(judge_best(self.PLAN, SOURCES, [], spoilt), False)
        spoilt = {tuple(True if scan == 1 else scan for scan in group): value for group, value in table.items()}
        self.assertIs(judge_best(self.PLAN, SOURCES, [], spoilt), False)

    def test_one_for_true(self):
        table = told(A)
        self.assertIs(judge_best(A, SOURCES, [], {(0,): (2, False, None)}), False)
        one = told(O)
        self.assertEqual(one, {(0,): (True, 0, None)})
        self.assertIs(judge_best(O, SOURCES, [], {(0,): (True, 0, None)}), False)
        self.assertIs(judge_best(O, SOURCES, [], {(0,): (1, 0, None)}), True)
        self.assertEqual(len(table), 1)


def random_plan(chance, sources, scans):
    """A plan of keeps, crosses, joins and so many scans, and its width."""
    if scans == 1:
        name = chance.choice(sorted(sources))
        plan, columns = ("scan", name), len(sources[name].columns)
    else:
        left = chance.randrange(1, scans)
        first, one = random_plan(chance, sources, left)
        second, other = random_plan(chance, sources, scans - left)
        plan, columns = ("cross", first, second), one + other
        if chance.random() < 0.5:
            plan = ("join", random_condition(chance, columns), first, second)
    while chance.random() < 0.25:
        plan = ("keep", random_condition(chance, columns), plan)
    return plan, columns


def random_condition(chance, columns):
    one, other = col(chance.randrange(columns)), col(chance.randrange(columns))
    return chance.choice([op("=", one, other), op("=", one, other), op("<", one, other), op("<>", one, other),
                          ("is_null", one, True), ("parameter", 1), lit(True), op("and", op("=", one, other), ("parameter", 1)),
                          op("or", op("=", one, lit(1)), op("<", other, lit(1)))])


class Random(unittest.TestCase):
    def test_the_tables_and_plans(self):
        counts = {}
        for seed in range(250):
            chance = random.Random(seed)
            sources = {}
            for name in "tuv":
                rows = [tuple(chance.choice([None, 0, 1, 2]) for _ in range(3))
                        for _ in range(chance.choice([0, 1, 2, 3, 4, 5]))]
                sources[name] = Source(name, ["id", "a", "b"], ["integer"] * 3, rows)
            scans = chance.choice([1, 2, 3, 3, 4, 5])
            if scans < 4 and chance.random() < 0.5:
                sources["t"] = Source("t", ["id"], ["integer"], [(number % 60,) for number in range(60)])
            plan, _ = random_plan(chance, sources, scans)
            self.compare(plan, sources, [chance.choice([True, True, True, False, None])], counts)
        self.assertGreater(min(counts.get(scans, 0) for scans in (1, 2, 3, 4, 5)), 15)

    def compare(self, plan, sources, parameters, counts):
        expected = Table(plan, sources, parameters)
        group = tuple(range(len(expected.scans)))
        if group not in expected.table:
            with self.assertRaises(NoPlan):
                best(plan, sources, parameters)
            return
        table = best(plan, sources, parameters)
        self.assertEqual(table, expected.table)
        self.assertIs(judge_best(plan, sources, parameters, expected.table), True)
        made = best_plan(plan, sources, parameters)
        self.assertEqual(repr(sorted(run(made, sources, parameters), key=row_key)),
                         repr(sorted(self.rows(plan, sources, parameters, expected, group), key=row_key)))
        self.assertEqual(self.cost(made[2], sources, parameters), table[group][1])
        counts[len(group)] = counts.get(len(group), 0) + 1

    def rows(self, plan, sources, parameters, expected, group):
        return [tuple(row) for row in expected.rows(group)]

    def cost(self, plan, sources, parameters):
        """The number of the pairs that the crosses of the plan look at."""
        if plan[0] == "scan":
            return 0
        if plan[0] == "keep":
            return self.cost(plan[2], sources, parameters)
        first, second = [run(each, sources, parameters) for each in plan[1:]]
        return sum(self.cost(each, sources, parameters) for each in plan[1:]) + len(first) * len(second)


if __name__ == "__main__":
    unittest.main()
