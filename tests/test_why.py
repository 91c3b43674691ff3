"""Points 82 to 86: entries, ways, and the changes on which a row rests."""

import random
import unittest

from kithwhole.errors import NoReason, QuestionError, UnknownColumn, UnknownPosition, UnknownTable
from kithwhole.kinds import check
from kithwhole.meaning import query_rows
from kithwhole.parser import parse
from kithwhole.sources import Source, all_sources
from kithwhole.store import Kept
from kithwhole.why import entries, rests_on, ways
from tests.random_questions import Asker, make_sources
from tests.support import ALL_RIGHTS, Net, spot

SOURCES = {
    "t": Source("t", ["id", "a", "b"], ["text", "integer", "boolean"],
                [("0.1.1", 1, True), ("0.1.2", 2, None), ("0.1.3", 1, False)]),
    "u": Source("u", ["id", "a", "c"], ["text", "integer", "text"],
                [("0.2.1", 1, "x"), ("0.2.2", 1, "y"), ("0.2.3", None, "z")]),
    "e": Source("e", ["id", "a"], ["text", "integer"], []),
}
T1, T2, T3 = ("t", "0.1.1"), ("t", "0.1.2"), ("t", "0.1.3")
U1, U2, U3 = ("u", "0.2.1"), ("u", "0.2.2"), ("u", "0.2.3")


def listed(text, parameters=()):
    return entries(parse(text)[1], SOURCES, list(parameters))


class Entries(unittest.TestCase):
    def test_a_table_has_its_rows_in_order(self):
        self.assertEqual(listed("select * from t"), [
            (("0.1.1", 1, True), (T1,)), (("0.1.2", 2, None), (T2,)), (("0.1.3", 1, False), (T3,))])
        self.assertEqual(listed("select * from e"), [])

    def test_a_way_names_the_source_and_never_its_alias(self):
        self.assertEqual(listed("select x.a from t x"), [((1,), (T1,)), ((2,), (T2,)), ((1,), (T3,))])

    def test_a_way_has_the_id_whatever_the_list_shows(self):
        self.assertEqual(listed("select 'k' as id from t where b"), [(("k",), (T1,))])

    def test_without_from_there_is_one_entry_with_the_empty_way(self):
        self.assertEqual(listed("select 1, null"), [((1, None), ())])
        self.assertEqual(listed("select 1 where false"), [])
        self.assertEqual(listed("select 1 where null"), [])

    def test_where_keeps_the_entries_for_which_it_is_true(self):
        self.assertEqual(listed("select a from t where b"), [((1,), (T1,))])
        self.assertEqual(listed("select a from t where not b"), [((1,), (T3,))])
        self.assertEqual(listed("select a from t where a > $1", [1]), [((2,), (T2,))])

    def test_a_join_has_both_rows_and_both_ways(self):
        self.assertEqual(listed("select t.id, c from t join u on t.a = u.a"), [
            (("0.1.1", "x"), (T1, U1)), (("0.1.1", "y"), (T1, U2)),
            (("0.1.3", "x"), (T3, U1)), (("0.1.3", "y"), (T3, U2))])

    def test_null_does_not_join(self):
        self.assertEqual(listed("select c from u join t on u.a = t.a and u.a is null"), [])

    def test_a_table_joined_with_itself_stands_twice_in_a_way(self):
        self.assertEqual(listed("select 1 from t join t y on t.id = y.id and y.a = 2"), [((1,), (T2, T2))])

    def test_joins_of_joins(self):
        self.assertEqual(listed("select 1 from t join u on t.a = u.a join u v on v.a is null where t.b"),
                         [((1,), (T1, U1, U3)), ((1,), (T1, U2, U3))])

    def test_distinct_keeps_all_entries(self):
        self.assertEqual(listed("select distinct a from t"), [((1,), (T1,)), ((2,), (T2,)), ((1,), (T3,))])

    def test_union_and_union_all_have_the_entries_of_both(self):
        for word in ("union", "union all"):
            self.assertEqual(listed(f"select a from u {word} select a from t"), [
                ((1,), (U1,)), ((1,), (U2,)), ((None,), (U3,)), ((1,), (T1,)), ((2,), (T2,)), ((1,), (T3,))])

    def test_a_query_in_from_has_its_entries(self):
        text = "select q.a from (select a from t where b union all select a from u) q join u v on v.a = q.a"
        self.assertEqual(listed(text), [
            ((1,), (T1, U1)), ((1,), (T1, U2)), ((1,), (U1, U1)), ((1,), (U1, U2)), ((1,), (U2, U1)),
            ((1,), (U2, U2))])

    def test_the_columns_of_a_query_in_from_have_its_names(self):
        self.assertEqual(listed("select m from (select a + 1 as m from t) q where m = 3"), [((3,), (T2,))])
        self.assertEqual(listed("select q.a from (select * from t) q where q.b"), [((1,), (T1,))])
        self.assertEqual(listed("select n from (select a as n from t union select a as k from u) q where n is null"),
                         [((None,), (U3,))])

    def test_what_is_returned_is_not_shared(self):
        found = listed("select * from t")
        found.clear()
        self.assertEqual(len(SOURCES["t"].rows), 3)

    def test_no_reasons_are_told_for_other_forms(self):
        for text in (
            "select a from t group by a", "select 1 from t having true", "select count(*) from t",
            "select 1 + max(a) from t", "select t.a from t left join u on true",
            "select t.a from t left join u on true join e on true", "select a from t where exists (select 1)",
            "select a from t where a in (select a from u)", "select a from t where not (1 = 2 or exists (select 1))",
            "select (select max(a) from u) from t", "select case when a = 1 then (select max(a) from u) else 1 end from t",
            "select t.a from t join u on exists (select 1)", "select a from t except select a from u",
            "select a from t intersect select a from u", "select a from t union select count(*) from u",
            "select a from t except select a from u union all select a from e",
            "select a from (select max(a) as a from t) q",
            "select q.a from t join (select distinct a from e group by a) q on true",
            "select a from e where a in (1, (select min(a) from t))",
        ):
            with self.subTest(text):
                with self.assertRaises(NoReason):
                    listed(text)
                with self.assertRaises(NoReason):
                    ways(parse(text), SOURCES, [], (1,))


class Ways(unittest.TestCase):
    def test_the_ways_of_a_row_stand_in_order(self):
        self.assertEqual(ways(parse("select a from t"), SOURCES, [], (1,)), [(T1,), (T3,)])
        self.assertEqual(ways(parse("select a from t union select a from u"), SOURCES, [], (1,)),
                         [(T1,), (T3,), (U1,), (U2,)])

    def test_a_way_stands_as_often_as_its_entry(self):
        self.assertEqual(ways(parse("select a from t where b union select a from t where b"), SOURCES, [], (1,)),
                         [(T1,), (T1,)])

    def test_a_row_that_the_query_does_not_make_has_no_ways(self):
        tree = parse("select a, b from t")
        for row in [(9, None), (1, None), (2, True), (1,), (1, True, 1), ()]:
            self.assertEqual(ways(tree, SOURCES, [], row), [])

    def test_rows_are_the_same_only_if_their_values_are(self):
        tree = parse("select a, b from t")
        self.assertEqual(ways(tree, SOURCES, [], (1, True)), [(T1,)])
        self.assertEqual(ways(tree, SOURCES, [], (True, True)), [])
        self.assertEqual(ways(tree, SOURCES, [], (1, 1)), [])
        self.assertEqual(ways(tree, SOURCES, [], (2, None)), [(T2,)])

    def test_order_and_limit_are_ignored(self):
        tree = parse("select a from t order by a desc limit 1")
        self.assertEqual(ways(tree, SOURCES, [], (1,)), [(T1,), (T3,)])
        self.assertEqual(ways(parse("select a from t limit 0"), SOURCES, [], (2,)), [(T2,)])

    def test_parameters(self):
        self.assertEqual(ways(parse("select a from t where a = $1 + 1"), SOURCES, [1], (2,)), [(T2,)])

    def test_the_check_comes_first(self):
        for text, error in (("select count(*) from zz", UnknownTable), ("select zz, max(a) from t", UnknownColumn),
                            ("select a from t except select a from u order by 2", UnknownPosition)):
            with self.assertRaises(error):
                ways(parse(text), SOURCES, [], (1,))

    def test_a_row_is_there_if_and_only_if_one_of_its_ways_is(self):
        """Point 85, for random questions and random parts of the sources."""
        compared = 0
        for seed in range(1500):
            chance = random.Random(seed)
            sources = make_sources(chance, 3)
            asker = Asker(chance, 0, chance.choice([2, 3]))
            tree, parameters = asker.question(), asker.parameters
            try:
                check(tree, sources, parameters)
                found = entries(tree[1], sources, parameters)
            except (NoReason, QuestionError):
                continue
            full = query_rows(tree[1], sources, parameters)
            self.assertEqual({repr(row) for row, _ in found}, {repr(row) for row in full})
            if "union" not in repr(tree) and "'select', True" not in repr(tree):
                self.assertEqual(repr([row for row, _ in found]), repr(full))
            for _ in range(4):
                some = {name: Source(name, one.columns, one.kinds, [row for row in one.rows if chance.random() < 0.6])
                        for name, one in sources.items()}
                there = {(name, row[0]) for name, one in some.items() for row in one.rows}
                due = {repr(row) for row, way in found if there.issuperset(way)}
                self.assertEqual({repr(row) for row in query_rows(tree[1], some, parameters)}, due)
                compared += len(full) > 0
        self.assertGreater(compared, 300)


class Ground(unittest.TestCase):
    """The founder grants rights to member 1 and makes a table; the tests make its columns and rows."""

    def setUp(self):
        self.net = Net(3)
        self.caps = self.net.invite(1)
        self.table = spot(self.net.change(0, [("table", "t")]), 0)
        self.columns = {}

    def column(self, name, holds):
        self.columns[name] = spot(self.net.change(0, [("column", self.table, name, holds)]), 0)
        return self.columns[name]

    def row(self, author=0, heard=None):
        return spot(self.by(author, [("row", self.table)], heard), 0)

    def by(self, author, acts, heard=None):
        capability = None if author == 0 else self.caps[author - 1]
        return self.net.change(author, acts, heard=heard, capability=capability)

    def rests(self, row, source="s0_t"):
        return rests_on(self.net.store, self.net.allowed(), source, ".".join(map(str, row)))


class Tables(Ground):
    """Point 86, rows of tables."""

    def test_a_row_rests_on_its_own_change_and_that_of_its_table(self):
        row = self.row()
        self.assertEqual(self.rests(row), [row[:2], self.table[:2]])
        inside = spot(self.net.change(0, [("table", "u"), ("row", (0, 4, 0))]), 1)
        self.assertEqual(self.rests(inside, "s0_u"), [(0, 4)])

    def test_columns_in_order_and_the_writes_that_count(self):
        one, two = self.column("b", "integer"), self.column("a", "text")
        row = self.row()
        first = self.by(0, [("put", row, two, "x")])
        self.assertEqual(self.rests(row), [row[:2], self.table[:2], one[:2], two[:2], first])
        late = self.by(0, [("put", row, one, 1)])
        self.assertEqual(self.rests(row), [row[:2], self.table[:2], one[:2], late, two[:2], first])
        newer = self.by(0, [("put", row, two, None)])
        self.assertEqual(self.rests(row), [row[:2], self.table[:2], one[:2], late, two[:2], newer])

    def test_of_concurrent_writes_the_one_that_counts(self):
        column = self.column("a", "integer")
        row = self.row()
        self.by(1, [("put", row, column, 1)])
        second = self.by(1, [("put", row, column, 2)])
        self.by(0, [("put", row, column, 3)], heard={1: 0})
        # Member 1 had heard more, so its change stands last.
        self.assertEqual(self.rests(row)[-2:], [second, self.caps[0][:2]])

    def test_references(self):
        column = self.column("r", ("refer", self.table))
        row, other = self.row(), self.row()
        name = self.by(0, [("refer", row, column, other)])
        self.assertEqual(self.rests(row), [row[:2], self.table[:2], column[:2], name])

    def test_columns_that_do_not_hold_their_names_are_left_out(self):
        column = self.column("a", "integer")
        other = self.column("a", "integer")
        row = self.row()
        self.by(0, [("put", row, other, 1)])
        self.assertEqual(self.rests(row), [row[:2], self.table[:2], column[:2]])

    def test_each_change_stands_once_at_its_first_place(self):
        name = self.net.change(0, [("table", "u"), ("column", (0, 3, 0), "a", "integer"), ("row", (0, 3, 0)),
                                   ("put", (0, 3, 2), (0, 3, 1), 4)])
        self.assertEqual(self.rests((0, 3, 2), "s0_u"), [name])

    def test_counters_rest_on_all_adds(self):
        column = self.column("n", "counter")
        row = self.row()
        one = self.by(0, [("add", row, column, 1), ("add", row, column, 2)])
        two = self.by(1, [("add", row, column, 0)])
        three = self.by(0, [("add", row, column, -1)])
        self.assertEqual(self.rests(row), [row[:2], self.table[:2], column[:2], one, two, self.caps[0][:2], three])
        self.by(0, [("undo", one)])
        self.assertEqual(self.rests(row), [row[:2], self.table[:2], column[:2], two, self.caps[0][:2], three])

    def test_adds_that_do_not_know_the_row_have_no_effect(self):
        column = self.column("n", "counter")
        row = self.row()
        self.by(1, [("add", row, column, 1)], heard={0: row[1] - 1})
        self.assertEqual(self.rests(row), [row[:2], self.table[:2], column[:2]])

    def test_stocks_rest_on_what_has_an_effect(self):
        column = self.column("k", "stock")
        row = self.row()
        one = self.by(0, [("add", row, column, 5)])
        two = self.by(0, [("lend", row, column, 1, 2)])
        three = self.by(1, [("spend", row, column, 1)])
        self.by(1, [("spend", row, column, 9)])
        self.by(0, [("add", row, column, 0)])
        base = [row[:2], self.table[:2], column[:2]]
        self.assertEqual(self.rests(row), base + [one, two, three, self.caps[0][:2]])

    def test_letters_rest_on_the_inserts_of_what_shows_in_its_order(self):
        column = self.column("l", "letters")
        row = self.row()
        one = self.by(0, [("insert", row, column, None, "bc")])
        two = self.by(0, [("insert", row, column, None, "a")])
        three = self.by(0, [("insert", row, column, spot(one, 0) + (0,), "x")])
        base = [row[:2], self.table[:2], column[:2]]
        self.assertEqual(self.rests(row), base + [two, one, three])
        self.by(0, [("remove", spot(two, 0) + (0,))])
        self.assertEqual(self.rests(row), base + [one, three])
        self.by(0, [("insert", row, column, None, "")])
        self.assertEqual(self.rests(row), base + [one, three])

    def test_the_changes_that_granted_follow_directly(self):
        column = self.column("a", "integer")
        deeper = spot(self.net.change(1, capability=self.caps[0], publics=[("grant", 2, ALL_RIGHTS)]), 0)
        row = spot(self.net.change(2, [("row", self.table)], capability=deeper), 0)
        late = self.by(1, [("put", row, column, 1)])
        self.assertEqual(self.rests(row), [row[:2], deeper[:2], self.caps[0][:2], self.table[:2], column[:2], late])

    def test_a_grant_that_stands_already_is_not_told_again(self):
        # The grant stands in the change that makes the table.
        self.net = Net(2)
        name = self.net.change(0, [("table", "t"), ("column", (0, 1, 0), "a", "integer")],
                               publics=[("grant", 1, ALL_RIGHTS)])
        row = spot(self.net.change(1, [("row", (0, 1, 0))], capability=(0, 1, 0)), 0)
        other = self.net.change(1, [("put", row, (0, 1, 1), 1)], capability=(0, 1, 0))
        self.assertEqual(self.rests(row), [row[:2], name, other])

    def test_sealed_changes_are_told_without_their_grants(self):
        column, number = self.column("a", "integer"), self.column("n", "counter")
        row = self.row(1)
        put = self.by(1, [("put", row, column, 1), ("add", row, number, 1)])
        base = [row[:2], self.caps[0][:2], self.table[:2], column[:2], put, number[:2]]
        self.assertEqual(self.rests(row), base)
        seal = self.net.seal()
        self.assertEqual(self.rests(row), [row[:2], self.table[:2], column[:2], put, number[:2]])
        late = self.by(1, [("add", row, number, 1)])
        self.assertEqual(self.rests(row),
                         [row[:2], self.table[:2], column[:2], put, number[:2], late, self.caps[0][:2]])
        self.assertNotIn(seal, self.rests(row))

    def test_the_acts_of_a_seal_itself_are_sealed(self):
        number, stock = self.column("n", "counter"), self.column("k", "stock")
        row = self.row()
        self.net.change(0, [("add", row, number, 1), ("add", row, stock, 4)], publics=[("seal",)])
        late = self.by(0, [("spend", row, stock, 1)])
        self.assertEqual(self.rests(row), [row[:2], self.table[:2], number[:2], stock[:2], late])

    def test_a_seal_that_is_not_allowed_seals_nothing(self):
        number = self.column("n", "counter")
        row = self.row()
        added = self.by(0, [("add", row, number, 1)])
        self.net.change(1, capability=self.caps[0], publics=[("seal",)])
        self.assertEqual(self.rests(row), [row[:2], self.table[:2], number[:2], added])


class Lenses(Ground):
    """Point 86, rows of lenses."""

    def setUp(self):
        Ground.setUp(self)
        self.a, self.b = self.column("a", "integer"), self.column("b", "integer")
        self.c = self.column("c", "text")
        self.made = self.row()
        self.puts = {column: self.by(0, [("put", self.made, column, value)])
                     for column, value in ((self.a, 1), (self.b, 2), (self.c, "x"))}

    def lens(self, name, base, shown, fixed=()):
        return spot(self.net.change(0, [("lens", name, base, tuple(shown), tuple(fixed))]), 0)

    def test_shown_columns_and_then_those_that_are_only_fixed(self):
        lens = self.lens("l", self.table, [(self.c, "c"), (self.b, "b")], [(self.a, 1), (self.b, 2)])
        self.assertEqual(self.rests(self.made, "s0_l"), [
            self.made[:2], self.table[:2], lens[:2], self.c[:2], self.puts[self.c], self.b[:2], self.puts[self.b],
            self.a[:2], self.puts[self.a]])

    def test_the_lenses_from_the_one_on_the_table_upwards(self):
        low = self.lens("low", self.table, [(self.a, "x"), (self.b, "y")], [(self.c, "x")])
        mid = self.lens("mid", low, [(self.b, "y")], [(self.a, 1)])
        top = self.lens("top", mid, [], [])
        self.assertEqual(self.rests(self.made, "s0_top"), [
            self.made[:2], self.table[:2], low[:2], mid[:2], top[:2], self.c[:2], self.puts[self.c],
            self.a[:2], self.puts[self.a]])

    def test_a_column_of_a_lens_need_not_hold_its_name(self):
        other = self.column("a", "integer")
        put = self.by(0, [("put", self.made, other, 7)])
        lens = self.lens("l", self.table, [(other, "k")])
        self.assertEqual(self.rests(self.made, "s0_l"), [self.made[:2], self.table[:2], lens[:2], other[:2], put])


class OtherSpaces(unittest.TestCase):
    def test_the_name_of_the_source_tells_the_space(self):
        net = Net(2)
        net.change(0, parts={0: [("table", "t"), ("row", (0, 1, 0))]})
        name = net.change(0, parts={3: [("table", "t"), ("row", (0, 2, 0))]})
        self.assertEqual(rests_on(net.store, net.allowed(), "s3_t", "0.2.1"), [name])
        self.assertEqual(rests_on(net.store, net.allowed(), "s0_t", "0.1.1"), [(0, 1)])

    def test_each_row_of_a_way_can_be_asked(self):
        net = Net(2)
        net.change(0, [("table", "t"), ("row", (0, 1, 0))])
        [way] = ways(parse("select id from s0_t x"), all_sources(net.store), [], ("0.1.1",))
        self.assertEqual(way, (("s0_t", "0.1.1"),))


class BehindACut(unittest.TestCase):
    def setUp(self):
        self.net = Net(3)
        table, column, row = (0, 1, 0), (0, 1, 1), (1, 2, 0)
        store = self.net.store
        store.cut = [3, 2, 0]
        store.capabilities = [((0, 2, 0), None, 1, ALL_RIGHTS), ((1, 1, 1), (0, 2, 0), 2, ALL_RIGHTS)]
        self.number, self.letters, self.stock = (0, 1, 2), (0, 1, 3), (0, 1, 4)
        store.kept[0] = Kept(
            [(table, ("table", "t")), (column, ("column", table, "a", "integer")),
             (self.number, ("column", table, "n", "counter")), (self.letters, ("column", table, "l", "letters")),
             (self.stock, ("column", table, "k", "stock")), (row, ("row", table)),
             ((1, 2, 1), ("put", row, column, 3))],
            [((row, self.number), 9)], [((row, self.letters), [((0, 3, 0, 0), "k")])], [((row, self.stock, 0), 5)])
        self.row = row

    def rests(self):
        return rests_on(self.net.store, self.net.allowed(), "s0_t", "1.2.0")

    def test_what_is_kept_names_its_changes_and_kept_sums_none(self):
        self.assertEqual(self.rests(), [(1, 2), (0, 1), (0, 3)])

    def test_grants_that_are_cut_away_are_told(self):
        name = self.net.change(2, [("add", self.row, self.number, 1)], capability=(1, 1, 1))
        self.assertEqual(self.rests(), [(1, 2), (0, 1), name, (1, 1), (0, 2), (0, 3)])

    def test_a_parent_that_is_not_kept_is_told_as_far_as_it_is_named(self):
        del self.net.store.capabilities[0]
        name = self.net.change(2, [("add", self.row, self.stock, 1)], capability=(1, 1, 1))
        self.assertEqual(self.rests(), [(1, 2), (0, 1), (0, 3), name, (1, 1), (0, 2)])


if __name__ == "__main__":
    unittest.main()
