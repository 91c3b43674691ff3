"""Points 130 to 132: where each rule may be applied and what it makes, steps, and papers."""

import random
import unittest

from kithwhole.errors import NoPlan, QuestionError
from kithwhole.kinds import check
from kithwhole.parser import parse
from kithwhole.plans import plan_of, run, width
from kithwhole.rules import RULES, all_steps, applied, follow, judge
from kithwhole.sources import Source
from kithwhole.values import row_key
from tests.plan_oracle import Plans, Rules, TooMany, col
from tests.random_questions import Asker, make_sources
from tests.trees import lit, op

SOURCES = {
    "t": Source("t", ["id", "a", "b"], ["text", "integer", "boolean"], [("1", 1, True), ("2", 2, None), ("3", 1, False)]),
    "u": Source("u", ["id", "a"], ["text", "integer"], [("5", 2), ("6", 1), ("7", None)]),
}
T, U, ONE = ("scan", "t"), ("scan", "u"), ("one",)
X, Y = op("=", col(1), lit(1)), ("is_null", col(0), False)
YES = lit(True)
ALL_RULES = ("split", "merge", "swap", "cross", "join", "left", "right", "match", "open", "turn", "hang", "unhang",
             "pick", "distinct", "set", "group", "twice", "picks")


class Case(unittest.TestCase):
    def makes(self, rule, plan, made):
        self.assertEqual(applied(plan, (rule, ()), SOURCES), made)

    def refuses(self, rule, *plans):
        for plan in plans:
            self.assertIsNone(applied(plan, (rule, ()), SOURCES), (rule, plan))


class EachRule(Case):
    def test_the_names_in_order(self):
        self.assertEqual(RULES, ALL_RULES)

    def test_split(self):
        self.makes("split", ("keep", op("and", X, Y), T), ("keep", X, ("keep", Y, T)))
        self.makes("split", ("keep", op("and", op("and", X, Y), YES), T), ("keep", op("and", X, Y), ("keep", YES, T)))
        self.refuses("split", ("keep", op("or", X, Y), T), ("keep", X, T), ("keep", ("not", op("and", X, Y)), T),
                     ("join", op("and", X, Y), T, U), ("pick", (op("and", X, Y),), T), T)

    def test_merge(self):
        self.makes("merge", ("keep", X, ("keep", Y, T)), ("keep", op("and", X, Y), T))
        self.refuses("merge", ("keep", X, T), ("keep", X, ("pick", (Y,), T)), ("pick", (X,), ("keep", Y, T)), T,
                     ("distinct", ("keep", X, ("keep", Y, T))))

    def test_swap(self):
        self.makes("swap", ("keep", X, ("keep", Y, T)), ("keep", Y, ("keep", X, T)))
        self.makes("swap", ("keep", X, ("keep", X, T)), ("keep", X, ("keep", X, T)))
        self.refuses("swap", ("keep", X, T), ("keep", X, ("distinct", ("keep", Y, T))))

    def test_cross(self):
        self.makes("cross", ("join", X, T, U), ("keep", X, ("cross", T, U)))
        self.refuses("cross", ("outer", X, T, U), ("cross", T, U), ("match", ((0, 3),), T, U), ("keep", X, ("join", X, T, U)))

    def test_join(self):
        self.makes("join", ("keep", X, ("cross", T, U)), ("join", X, T, U))
        self.refuses("join", ("keep", X, ("join", X, T, U)), ("keep", X, ("outer", X, T, U)), ("cross", T, U),
                     ("keep", X, ("match", ((0, 3),), T, U)), ("keep", X, T))

    def test_left(self):
        for step in (("cross",), ("join", Y), ("match", ((0, 3),)), ("outer", Y)):
            self.makes("left", ("keep", X, step + (T, U)), step + (("keep", X, T), U))
            self.makes("left", ("keep", YES, step + (T, U)), step + (("keep", YES, T), U))
            self.makes("left", ("keep", op("=", col(0), col(2)), step + (T, U)),
                       step + (("keep", op("=", col(0), col(2)), T), U))
            self.refuses("left", ("keep", op("=", col(3), lit("5")), step + (T, U)),
                         ("keep", op("or", X, op("=", col(4), lit(1))), step + (T, U)), step + (T, U))
        self.refuses("left", ("keep", X, T), ("keep", X, ("all", U, U)), ("keep", X, ("except", U, U)), ("join", X, T, U),
                     ("keep", X, ("keep", X, ("cross", T, U))))

    def test_right(self):
        for step in (("cross",), ("join", Y), ("match", ((0, 3),))):
            self.makes("right", ("keep", op("=", col(4), col(3)), step + (T, U)),
                       step + (T, ("keep", op("=", col(1), col(0)), U)))
            self.makes("right", ("keep", YES, step + (T, U)), step + (T, ("keep", YES, U)))
            self.refuses("right", ("keep", op("=", col(2), YES), step + (T, U)),
                         ("keep", op("or", X, op("=", col(4), lit(1))), step + (T, U)), step + (T, U))
        self.refuses("right", ("keep", op("=", col(4), lit(1)), ("outer", Y, T, U)), ("keep", YES, ("outer", Y, T, U)),
                     ("keep", X, T), ("keep", YES, ("all", U, U)))

    def test_match(self):
        for condition in (op("=", col(1), col(4)), op("=", col(4), col(1))):
            self.makes("match", ("keep", condition, ("cross", T, U)), ("match", ((1, 4),), T, U))
            self.makes("match", ("keep", condition, ("match", ((2, 3), (0, 4)), T, U)),
                       ("match", ((2, 3), (0, 4), (1, 4)), T, U))
        self.makes("match", ("keep", op("=", col(1), col(4)), ("match", ((1, 4),), T, U)),
                   ("match", ((1, 4), (1, 4)), T, U))
        self.makes("match", ("keep", op("=", col(2), col(3)), ("cross", T, U)), ("match", ((2, 3),), T, U))
        cross = ("cross", T, U)
        self.refuses("match", ("keep", op("=", col(0), col(2)), cross), ("keep", op("=", col(3), col(4)), cross),
                     ("keep", op("<", col(1), col(4)), cross), ("keep", op("=", col(1), lit(4)), cross),
                     ("keep", op("=", lit(1), col(4)), cross), ("keep", op("=", op("+", col(1), lit(0)), col(4)), cross),
                     ("keep", op("=", col(1), col(4)), ("join", YES, T, U)), ("join", op("=", col(1), col(4)), T, U),
                     ("keep", op("=", col(1), col(4)), ("outer", YES, T, U)), ("keep", col(1), cross), cross,
                     ("keep", op("=", col(1), col(1)), cross), ("keep", op("=", ("parameter", 1), col(4)), cross))

    def test_open(self):
        self.makes("open", ("match", ((1, 4),), T, U), ("keep", op("=", col(1), col(4)), ("cross", T, U)))
        self.makes("open", ("match", ((1, 4), (0, 3)), T, U),
                   ("keep", op("=", col(0), col(3)), ("match", ((1, 4),), T, U)))
        self.refuses("open", ("cross", T, U), ("join", op("=", col(1), col(4)), T, U), ("keep", X, T))

    def test_turn(self):
        back = (col(2), col(3), col(4), col(0), col(1))
        self.makes("turn", ("cross", T, U), ("pick", back, ("cross", U, T)))
        self.makes("turn", ("match", ((1, 4), (0, 3)), T, U), ("pick", back, ("match", ((1, 3), (0, 2)), U, T)))
        self.makes("turn", ("cross", ONE, U), ("pick", (col(0), col(1)), ("cross", U, ONE)))
        self.makes("turn", ("cross", U, ONE), ("pick", (col(0), col(1)), ("cross", ONE, U)))
        self.refuses("turn", ("join", X, T, U), ("outer", X, T, U), ("all", U, U), T)

    def test_hang_and_unhang(self):
        low, high = ("cross", ("cross", T, U), ONE), ("cross", T, ("cross", U, ONE))
        self.makes("hang", low, high)
        self.makes("unhang", high, low)
        self.refuses("hang", high, ("cross", T, U), ("join", X, ("cross", T, U), U), ("cross", ("join", X, T, U), U),
                     ("cross", ("match", ((0, 3),), T, U), U))
        self.refuses("unhang", low, ("cross", T, U), ("join", X, T, ("cross", T, U)), ("cross", T, ("join", X, T, U)))

    def test_pick(self):
        items = (col(1), op("+", col(1), lit(1)))
        self.makes("pick", ("keep", op("<", col(1), col(0)), ("pick", items, T)),
                   ("pick", items, ("keep", op("<", op("+", col(1), lit(1)), col(1)), T)))
        self.makes("pick", ("keep", YES, ("pick", (), T)), ("pick", (), ("keep", YES, T)))
        self.refuses("pick", ("keep", X, T), ("pick", items, ("keep", X, T)), ("keep", X, ("group", None, items, None, T)))

    def test_a_pick_replaces_columns_in_expressions_of_all_kinds(self):
        a, b = ("negate", col(1)), lit(7)
        forms = [("not", col(0)), ("is_null", col(0), True), ("in_list", col(1), (col(0), lit(1)), False),
                 ("case", col(0), col(1), ("parameter", 1)), op("||", col(1), lit("x")), ("negate", col(0))]
        made = [("not", a), ("is_null", a, True), ("in_list", b, (a, lit(1)), False), ("case", a, b, ("parameter", 1)),
                op("||", b, lit("x")), ("negate", a)]
        for form, told in zip(forms, made):
            self.makes("pick", ("keep", form, ("pick", (a, b), T)), ("pick", (a, b), ("keep", told, T)))

    def test_distinct(self):
        self.makes("distinct", ("keep", X, ("distinct", T)), ("distinct", ("keep", X, T)))
        self.refuses("distinct", ("keep", X, T), ("distinct", ("keep", X, T)), ("distinct", ("distinct", T)))

    def test_set(self):
        self.makes("set", ("keep", X, ("all", U, U)), ("all", ("keep", X, U), ("keep", X, U)))
        self.makes("set", ("keep", X, ("except", U, U)), ("except", ("keep", X, U), U))
        self.makes("set", ("keep", X, ("intersect", U, U)), ("intersect", ("keep", X, U), U))
        self.refuses("set", ("all", U, U), ("keep", X, ("distinct", ("all", U, U))), ("keep", X, ("cross", U, U)))

    def test_group(self):
        items = (("count_all",), col(2), col(0), op("+", col(1), lit(1)), col(1))
        having = op(">", ("count_all",), lit(1))
        for kept in (None, having):
            group = ("group", (2, 1), items, kept, T)
            self.makes("group", ("keep", op("=", col(1), op("<", col(4), lit(2))), group),
                       ("group", (2, 1), items, kept, ("keep", op("=", col(2), op("<", col(1), lit(2))), T)))
            self.makes("group", ("keep", YES, group), ("group", (2, 1), items, kept, ("keep", YES, T)))
            self.refuses("group", ("keep", op("=", col(0), lit(1)), group), ("keep", op("=", col(3), lit(1)), group),
                         ("keep", op("=", col(2), lit("1")), group), ("keep", op("=", col(1), op("<", col(0), lit(2))), group),
                         ("group", (2, 1), items, kept, ("keep", X, T)))
        self.refuses("group", ("keep", YES, ("group", None, (("count_all",),), None, T)),
                     ("keep", X, ("group", None, (lit(1), lit(1)), None, T)), ("keep", YES, ("pick", (col(0),), T)))

    def test_twice(self):
        for lower in (("distinct", T), ("except", U, U), ("intersect", U, U)):
            self.makes("twice", ("distinct", lower), lower)
        self.refuses("twice", ("distinct", ("all", U, U)), ("distinct", T), ("except", U, U), ("keep", X, ("distinct", T)),
                     ("distinct", ("group", (0,), (col(0),), None, T)))

    def test_picks(self):
        lower = (op("+", col(1), lit(1)), col(0))
        self.makes("picks", ("pick", (col(1), op("*", col(0), col(0)), lit(3)), ("pick", lower, T)),
                   ("pick", (col(0), op("*", lower[0], lower[0]), lit(3)), T))
        self.makes("picks", ("pick", (), ("pick", (), T)), ("pick", (), T))
        self.refuses("picks", ("pick", lower, T), ("pick", lower, ("distinct", ("pick", lower, T))),
                     ("group", None, lower, None, ("pick", lower, T)))

    def test_no_rule_applies_to_what_has_nothing_below(self):
        for rule in RULES:
            self.refuses(rule, T, ONE)


class Steps(Case):
    PLAN = ("distinct", ("all", ("keep", op("and", X, X), ("keep", X, U)), ("pick", (col(0), col(1)), ("cross", U, ONE))))

    def test_the_path_leads_to_one_of_the_plans_below(self):
        self.assertEqual(applied(self.PLAN, ("turn", (0, 1, 0)), SOURCES),
                         ("distinct", ("all", self.PLAN[1][1], ("pick", (col(0), col(1)), (
                             "pick", (col(0), col(1)), ("cross", ONE, U))))))
        self.assertEqual(applied(self.PLAN, ("split", (0, 0)), SOURCES),
                         ("distinct", ("all", ("keep", X, ("keep", X, ("keep", X, U))), self.PLAN[1][2])))

    def test_the_second_plan_below_each_step(self):
        cut, told = ("keep", op("and", X, X), U), ("keep", X, ("keep", X, U))
        for step in (("cross",), ("join", X), ("match", ((0, 3),)), ("outer", X), ("all",), ("except",), ("intersect",)):
            self.assertEqual(applied(step + (U, cut), ("split", (1,)), SOURCES), step + (U, told))
            self.assertEqual(applied(step + (cut, U), ("split", (0,)), SOURCES), step + (told, U))
            self.assertIsNone(applied(step + (U, cut), ("split", (0,)), SOURCES))
        for step in (("keep", Y), ("pick", (X,)), ("distinct",), ("group", None, (X,), None)):
            self.assertEqual(applied(step + (cut,), ("split", (0,)), SOURCES), step + (told,))
            self.assertIsNone(applied(step + (cut,), ("split", (1,)), SOURCES))

    def test_a_path_that_leads_nowhere(self):
        for path in ((1,), (0, 2), (0, 0, 1), (0, 0, 0, 0, 0), (-1,), (0, -1), (0, 1, -1)):
            for rule in ("split", "merge", "turn", "swap"):
                self.assertIsNone(applied(self.PLAN, (rule, path), SOURCES), path)

    def test_what_is_no_pair_of_a_rule_and_a_path(self):
        plan = ("all", ("keep", op("and", X, Y), U), ("keep", op("and", X, Y), U))
        self.assertIsNotNone(applied(plan, ("split", (1,)), SOURCES))
        for step in (None, "split", 3, ("split",), ("split", (1,), ()), (), ("split", [1]), ("split", 1), ("split", None),
                     ("zz", (1,)), ("SPLIT", (1,)), (None, (1,)), (3, (1,)), ((1,), "split"), ("split", (True,)),
                     ("split", ("1",)), ("split", (None,)), ("split", ((1,),)), ["split", (1,)], ("split", "1"),
                     (("split",), (1,)), (["split"], (1,)), {"split": (1,)}, ("split", (False, )), ("split", {1: 1})):
            self.assertIsNone(applied(plan, step, SOURCES), step)
            self.assertIs(judge(plan, [step], plan, SOURCES), False)
            with self.assertRaises(NoPlan):
                follow(plan, [step], SOURCES)

    def test_all_steps_in_order(self):
        self.assertEqual(all_steps(self.PLAN, SOURCES), [
            ("split", (0, 0)), ("merge", (0, 0)), ("swap", (0, 0)), ("turn", (0, 1, 0))])
        deep = ("join", X, ("match", ((0, 2),), U, ("join", X, U, U)), ("cross", U, ("cross", U, ONE)))
        self.assertEqual(all_steps(deep, SOURCES), [
            ("cross", ()), ("open", (0,)), ("turn", (0,)), ("cross", (0, 1)), ("turn", (1,)), ("unhang", (1,)),
            ("turn", (1, 1))])
        self.assertEqual(all_steps(T, SOURCES), [])
        cross = ("keep", op("=", col(0), col(0)), ("keep", YES, ("cross", U, ("cross", ONE, ONE))))
        self.assertEqual(all_steps(cross, SOURCES), [
            ("merge", ()), ("swap", ()), ("join", (0,)), ("left", (0,)), ("right", (0,)), ("turn", (0, 0)),
            ("unhang", (0, 0)), ("turn", (0, 0, 1))])


class Papers(Case):
    def setUp(self):
        self.plan = plan_of(parse("select t.a from t join u on t.a = u.a where b and u.id <> '7'")[1], SOURCES)
        self.paper = [("cross", (0, 0)), ("split", (0,)), ("swap", (0,))]
        self.last = follow(self.plan, self.paper, SOURCES)

    def test_follow(self):
        self.assertEqual(follow(self.plan, [], SOURCES), self.plan)
        step = self.plan
        for each in self.paper:
            step = applied(step, each, SOURCES)
        self.assertEqual(self.last, step)
        with self.assertRaises(NoPlan):
            follow(self.plan, self.paper + [("hang", ())], SOURCES)

    def test_a_paper_that_is_right(self):
        self.assertIs(judge(self.plan, self.paper, self.last, SOURCES), True)
        self.assertIs(judge(self.plan, [], self.plan, SOURCES), True)

    def test_papers_that_are_wrong(self):
        first, second, third = self.paper
        for paper in ([second, third], [first, third], [first, second], [first, second, third, third],
                      [first, first, second, third], [second, first], [third, second, first], [("join", (0, 0)), second, third],
                      [("cross", (0,)), second, third], [first, ("split", (0, 0)), third], [first, second, ("merge", (0,))]):
            self.assertIs(judge(self.plan, paper, self.last, SOURCES), False, paper)

    def test_steps_that_may_be_exchanged(self):
        plan = ("all", ("keep", op("and", X, Y), U), ("keep", op("and", Y, X), U))
        one, other = ("split", (0,)), ("split", (1,))
        last = follow(plan, [one, other], SOURCES)
        self.assertIs(judge(plan, [other, one], last, SOURCES), True)

    def test_another_last_plan(self):
        for last in (self.plan, self.last[:2], self.last + ((),), None, [], list(self.last), "pick",
                     ("pick", list(self.last[1]), self.last[2]), ("distinct", self.last)):
            self.assertIs(judge(self.plan, self.paper, last, SOURCES), False)

    def test_a_boolean_is_no_integer(self):
        for one, other in ((lit(True), lit(1)), (lit(0), lit(False))):
            plan = ("keep", one, T)
            self.assertIs(judge(plan, [], ("keep", other, T), SOURCES), False)
            self.assertIs(judge(plan, [], ("keep", one, T), SOURCES), True)
        negated = ("keep", ("is_null", col(0), False), T)
        self.assertIs(judge(negated, [], ("keep", ("is_null", col(0), 0), T), SOURCES), False)
        match = ("match", ((0, 2), (1, 3)), U, U)
        self.assertIs(judge(match, [], ("match", ((False, 2), (1, 3)), U, U), SOURCES), False)

    def test_deep_plans(self):
        plan = U
        for _ in range(150):
            plan = ("distinct", plan)
        path = (0,) * 148
        self.assertEqual(len(all_steps(plan, SOURCES)), 149)
        made = applied(plan, ("twice", path), SOURCES)
        self.assertIs(judge(plan, [("twice", path)], made, SOURCES), True)
        self.assertIs(judge(plan, [("twice", path)], plan, SOURCES), False)


def spiced(chance, plan, sources, parameters, steps):
    """A paper of random steps; rules that apply seldom are taken more often."""
    paper = []
    for _ in range(steps):
        found = all_steps(plan, sources)
        if not found:
            break
        rule = chance.choice(sorted({rule for rule, _ in found}))
        paper.append(chance.choice([step for step in found if step[0] == rule]))
        plan = applied(plan, paper[-1], sources)
    return paper


class Random(unittest.TestCase):
    """Point 132: the rows stay the same, each as often."""

    def plan(self, chance, sources, asker):
        tree = asker.question()
        try:
            check(tree, sources, asker.parameters)
            plan = plan_of(tree[1], sources)
        except (QuestionError, NoPlan):
            return None
        # Keeps above what keeps seldom stand above.
        many = width(plan, sources)
        if many < 4 and chance.random() < 0.2:
            plan = ("keep", op("=", col(chance.randrange(many)), col(many + chance.choice([0, 1]))),
                    ("cross", plan, ("scan", chance.choice(["t", "u"]))))
            if chance.random() < 0.3:
                plan = plan[:2] + (("cross", plan[2][1], ("cross", plan[2][2], ("one",))),)
            many = width(plan, sources)
        for _ in range(chance.randrange(3)):
            place = chance.randrange(many)
            other = chance.randrange(many)
            x = chance.choice([("is_null", col(place), True), op("=", col(place), col(place)), lit(True),
                               op("and", ("is_null", col(other), True), op("=", col(place), col(place)))])
            plan = chance.choice([("keep", x, plan), ("distinct", ("keep", x, plan)), ("keep", x, ("distinct", plan))])
        return plan

    def test_steps_keep_the_rows(self):
        used = {}
        for seed in range(1200):
            chance = random.Random(seed)
            sources = make_sources(chance, 4)
            asker = Asker(chance, 0, chance.choice([1, 2, 2, 3]))
            plan = self.plan(chance, sources, asker)
            if plan is None:
                continue
            oracle, rules = Plans(sources, asker.parameters), Rules(sources)
            rows = repr(sorted(run(plan, sources, asker.parameters), key=row_key))
            last = plan
            paper = spiced(chance, plan, sources, asker.parameters, 8)
            for rule, path in paper:
                self.assertEqual(all_steps(last, sources), rules.steps(last, ALL_RULES))
                last = rules.after(last, rule, path)
                used[rule] = used.get(rule, 0) + 1
                try:
                    expected = oracle.rows(last)
                except TooMany:
                    expected = None
                if expected is not None:
                    self.assertEqual(repr(run(last, sources, asker.parameters)), repr(expected))
                    self.assertEqual(repr(sorted(expected, key=row_key)), rows, (paper, plan))
                self.assertEqual(width(last, sources), width(plan, sources))
            self.assertEqual(repr(follow(plan, paper, sources)), repr(last))
            self.assertIs(judge(plan, paper, last, sources), True)
        self.assertEqual([rule for rule in RULES if used.get(rule, 0) < 3], [])


if __name__ == "__main__":
    unittest.main()
