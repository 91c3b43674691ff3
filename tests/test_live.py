"""Points 79 to 81: rows that come and go, live results, differences of lists and of joins."""

import random
import unittest

from kithwhole.errors import UnknownColumn, UnknownParameter, UnknownTable
from kithwhole.live import Live, came, change_of, join_change, went
from kithwhole.meaning import answer
from kithwhole.parser import parse
from kithwhole.sources import Source


class ComingAndGoing(unittest.TestCase):
    def told(self, old, new, coming, going):
        before = (list(old), list(new))
        for function, expected in ((came, coming), (went, going)):
            rows = function(old, new)
            self.assertEqual(rows, expected)
            self.assertEqual(repr(rows), repr(expected))
            rows.append("x")
        self.assertEqual((old, new), before)

    def test_nothing(self):
        self.told([], [], [], [])
        self.told([(1,), (2,)], [(1,), (2,)], [], [])
        self.told([(1,), (2,)], [(2,), (1,)], [], [])

    def test_rows(self):
        self.told([], [(2,), (1,), (2,)], [(2,), (1,), (2,)], [])
        self.told([(2,), (1,), (2,)], [], [], [(2,), (1,), (2,)])
        self.told([(1,), (2,)], [(3,), (2,), (0,)], [(3,), (0,)], [(1,)])

    def test_as_many_of_each(self):
        self.told([(1,)], [(1,), (1,)], [(1,)], [])
        self.told([(1,), (1,), (1,)], [(1,)], [], [(1,), (1,)])
        self.told([(1,), (2,), (1,)], [(2,), (2,), (1,), (2,)], [(2,), (2,)], [(1,)])

    def test_the_first_ones_are_left_out(self):
        # Equal rows look alike, so only the places of the others tell which ones were left out.
        self.told([(1,)], [(1,), (2,), (1,), (3,)], [(2,), (1,), (3,)], [])
        self.told([(1,), (2,), (1,), (3,), (1,)], [(1,)], [], [(2,), (1,), (3,), (1,)])

    def test_which_rows_are_equal(self):
        self.told([(1,), (0,)], [(True,), (False,)], [(True,), (False,)], [(1,), (0,)])
        self.told([(True, 1)], [(1, True)], [(1, True)], [(True, 1)])
        self.told([(1,)], [(1, None)], [(1, None)], [(1,)])
        self.told([()], [(None,)], [(None,)], [()])
        self.told([("1",), (None,)], [(1,), ("",)], [(1,), ("",)], [("1",), (None,)])
        self.told([(None, "a", 10 ** 50)], [(None, "a", 10 ** 50)], [], [])

    def test_no_row_comes_and_goes(self):
        for seed in range(200):
            chance = random.Random(seed)
            values = [1, True, 0, False, None, "1"]
            old, new = ([(chance.choice(values),) for _ in range(chance.randrange(8))] for _ in range(2))
            coming, going = came(old, new), went(old, new)
            alike = {repr(row) for row in coming} & {repr(row) for row in going}
            self.assertEqual(alike, set())
            left = sorted(map(repr, old + coming))
            self.assertEqual(left, sorted(map(repr, new + going)))


class Results(unittest.TestCase):
    def source(self, *values):
        return {"t": Source("t", ["a"], ["integer"], [(value,) for value in values])}

    def live(self, text, parameters=()):
        return Live(parse(text), list(parameters))

    def test_turns(self):
        live = self.live("select a from t")
        self.assertEqual(live.turn(self.source(2, 1)), (["a"], [(1,), (2,)], []))
        self.assertEqual(live.turn(self.source(2, 1)), (["a"], [], []))
        self.assertEqual(live.turn(self.source(3, 1, 1)), (["a"], [(1,), (3,)], [(2,)]))
        self.assertEqual(live.turn(self.source()), (["a"], [], [(1,), (1,), (3,)]))

    def test_the_order_of_the_answers(self):
        live = self.live("select a from t order by a desc")
        self.assertEqual(live.turn(self.source(1, 3, 2))[1], [(3,), (2,), (1,)])
        self.assertEqual(live.turn(self.source(0, 5, 1, 4)), (["a"], [(5,), (4,), (0,)], [(3,), (2,)]))

    def test_limits(self):
        live = self.live("select a from t limit 2")
        self.assertEqual(live.turn(self.source(1, 2, 3))[1], [(1,), (2,)])
        self.assertEqual(live.turn(self.source(0, 1, 2, 3)), (["a"], [(0,)], [(2,)]))

    def test_errors_leave_the_remembered_answer(self):
        live = self.live("select a from t")
        with self.assertRaises(UnknownTable):
            live.turn({})
        self.assertEqual(live.turn(self.source(1, 2)), (["a"], [(1,), (2,)], []))
        with self.assertRaises(UnknownTable):
            live.turn({})
        with self.assertRaises(UnknownColumn):
            live.turn({"t": Source("t", ["b"], ["integer"], [(7,)])})
        self.assertEqual(live.turn(self.source(2, 3)), (["a"], [(3,)], [(1,)]))

    def test_parameters(self):
        given = [1]
        live = Live(parse("select a + $1 as n from t"), given)
        given[0] = 100
        given.clear()
        self.assertEqual(live.turn(self.source(1)), (["n"], [(2,)], []))
        live = self.live("select $1")
        with self.assertRaises(UnknownParameter):
            live.turn({})
        self.assertEqual(Live(parse("select $1"), ("x",)).turn({}), ([""], [("x",)], []))

    def test_columns_that_change(self):
        live = self.live("select * from t")
        live.turn(self.source(1, 2))
        wide = {"t": Source("t", ["a", "b"], ["integer", "boolean"], [(1, True), (2, None)])}
        self.assertEqual(live.turn(wide), (["a", "b"], [(1, True), (2, None)], [(1,), (2,)]))

    def test_what_is_told_is_not_what_is_remembered(self):
        live = self.live("select a from t")
        sources = self.source(1, 2)
        names, coming, going = live.turn(sources)
        names.clear()
        coming.clear()
        going.append((9,))
        sources["t"].rows.clear()
        self.assertEqual(live.turn(self.source(1, 2)), (["a"], [], []))

    def test_two_live_results(self):
        one, other = self.live("select a from t"), self.live("select a from t")
        one.turn(self.source(1))
        self.assertEqual(other.turn(self.source(1, 2))[1], [(1,), (2,)])
        self.assertEqual(one.turn(self.source(1, 2))[1], [(2,)])

    def test_the_sums_of_the_turns(self):
        tree = parse("select a, count(*) from t group by a order by 2 desc limit 3")
        for seed in range(50):
            chance, live, rows = random.Random(seed), Live(tree, []), []
            for _ in range(6):
                sources = self.source(*[chance.choice([None, 0, 1, 2]) for _ in range(chance.randrange(6))])
                _, coming, going = live.turn(sources)
                for row in going:
                    rows.remove(row)
                rows += coming
                self.assertEqual(sorted(rows, key=repr), sorted(answer(tree, sources, [])[1], key=repr))


class Differences(unittest.TestCase):
    def test_lists(self):
        self.assertEqual(change_of([], []), {})
        self.assertEqual(change_of([(1,), (2,), (1,)], [(2,), (3,), (3,)]), {(1,): -2, (3,): 2})
        self.assertEqual(change_of([(1, "a")], [(1, "a"), (1, "a"), (1, None)]), {(1, "a"): 1, (1, None): 1})
        self.assertEqual(change_of([(1,)], [(1,)]), {})
        self.assertEqual(change_of([()], [(), ()]), {(): 1})
        for row in change_of([(None,)], [(True,)]):
            self.assertIs(type(row), tuple)

    def joined(self, left, right, condition):
        rows = [a + b for a in left for b in right]
        return [row for row in rows if condition(row)]

    def test_a_join(self):
        def condition(row):
            return row[0] == row[1]

        self.assertEqual(join_change([], [(1,), (2,)], [], [(1,), (1,)], condition), {(1, 1): 2})
        self.assertEqual(join_change([(1,)], [(1,)], [(1,)], [(1,)], condition), {})
        self.assertEqual(join_change([(1,)], [], [(1,)], [], condition), {(1, 1): -1})
        self.assertEqual(join_change([(1,), (1,)], [(1,)], [(1,)], [(1,), (1,), (1,)], condition), {(1, 1): 1})
        self.assertEqual(join_change([(1,)], [(2,)], [(2,)], [(1,)], condition), {})
        self.assertEqual(join_change([(1,)], [(2,)], [(1,)], [(2,)], condition), {(1, 1): -1, (2, 2): 1})
        self.assertEqual(join_change([("a",)], [("a",), ("b",)], [("c",)], [("c",)], lambda row: True), {("b", "c"): 1})

    def test_products_with_opposite_signs(self):
        # Two rows go on the left while three come on the right, and the other way round.
        told = join_change([(1,)] * 2, [], [], [(1,)] * 3, lambda row: True)
        self.assertEqual(told, {})
        told = join_change([(1,)] * 3, [(1,)], [(2,)], [(2,)] * 4, lambda row: True)
        self.assertEqual(told, {(1, 2): 1})
        told = join_change([(1,)], [(1,)] * 3, [(2,)] * 4, [(2,)], lambda row: True)
        self.assertEqual(told, {(1, 2): -1})

    def test_it_is_the_difference_of_the_joins(self):
        def conditions(row):
            return [True, row[0] == row[-1], row[0] is None or row[1] == "x", row[0] != row[-1]]

        for seed in range(400):
            chance = random.Random(seed)
            wide = chance.choice([1, 2])
            lists = []
            for width in (1, 1, wide, wide):
                lists.append([tuple(chance.choice([None, 1, 2, "x"]) for _ in range(width))
                              for _ in range(chance.randrange(6))])
            before = repr(lists)
            which = chance.randrange(4)

            def condition(row):
                return conditions(row)[which]

            told = join_change(*lists, condition)
            old, new = self.joined(lists[0], lists[2], condition), self.joined(lists[1], lists[3], condition)
            self.assertEqual(told, change_of(old, new))
            self.assertNotIn(0, told.values())
            self.assertEqual(repr(lists), before)


if __name__ == "__main__":
    unittest.main()
