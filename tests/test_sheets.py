"""Points 39 to 43, and 117 and 118 as far as a Sheet tells them: what the acts of a space make."""

import unittest

from kithwhole.sheets import Sheet
from kithwhole.store import Kept, Store
from tests.support import ALL_RIGHTS, UNKNOWN, Net, spot

TABLE = (0, 1, 0)


def start(members=3):
    """The founder makes a table with a few columns, and invites the others."""
    net = Net(members)
    acts = [("table", "t"), ("column", TABLE, "n", "integer"), ("column", TABLE, "s", "text"),
            ("column", TABLE, "b", "boolean"), ("column", TABLE, "r", ("refer", TABLE)),
            ("column", TABLE, "c", "counter"), ("column", TABLE, "k", "stock"), ("column", TABLE, "l", "letters")]
    net.change(0, acts, publics=[("grant", member, ALL_RIGHTS) for member in range(1, members)])
    return net


N, S, B, R, C, K, L = [(0, 1, place) for place in range(1, 8)]


def cap(member):
    return (0, 1, member - 1)


class Making(unittest.TestCase):
    def test_an_empty_store(self):
        sheet = Sheet(Store(4), {}, 2)
        self.assertEqual((sheet.acts, sheet.place, sheet.tables, sheet.lenses), ([], {}, [], []))
        self.assertEqual((sheet.columns, sheet.rules, sheet.rule_spots, sheet.live), ({}, {}, {}, {}))
        self.assertEqual(sheet.members, 4)
        self.assertIsNone(sheet.act_of((0, 1, 0)))
        self.assertIsNone(sheet.table_of((0, 1, 0)))

    def test_acts_and_places(self):
        net = start()
        net.change(1, [("row", TABLE), ("undo", (7, 7))], capability=cap(1))
        sheet = net.sheet()
        self.assertEqual(len(sheet.acts), 10)
        self.assertEqual(sheet.acts[-2:], [((1, 1, 0), ("row", TABLE)), ((1, 1, 1), ("undo", (7, 7)))])
        self.assertEqual([sheet.place[place] for place, _ in sheet.acts], list(range(10)))
        self.assertEqual(len(sheet.place), 10)
        self.assertEqual(sheet.act_of((1, 1, 0)), ("row", TABLE))
        self.assertIsNone(sheet.act_of((1, 1, 2)))

    def test_tables_in_order(self):
        net = start()
        net.change(2, [("table", "t")], capability=cap(2), heard={1: 0})
        net.change(1, [("table", "a")], capability=cap(1), heard={2: 0})
        self.assertEqual(net.sheet().tables, [TABLE, (1, 1, 0), (2, 1, 0)])
        sheet = net.sheet()
        for made in (sheet.columns, sheet.rules, sheet.rule_spots, sheet.live):
            self.assertEqual(list(made), sheet.tables)
        self.assertEqual(sheet.columns[(1, 1, 0)], [])

    def test_columns_and_what_they_hold(self):
        sheet = start().sheet()
        self.assertEqual(sheet.columns, {TABLE: [N, S, B, R, C, K, L]})
        told = [sheet.holds(column) for column in sheet.columns[TABLE]]
        self.assertEqual(told, ["integer", "text", "boolean", ("refer", TABLE), "counter", "stock", "letters"])
        self.assertEqual({sheet.table_of(column) for column in sheet.columns[TABLE]}, {TABLE})

    def test_what_is_no_column_holds_nothing(self):
        sheet = start().sheet()
        self.assertIsNone(sheet.holds(TABLE))
        self.assertIsNone(sheet.holds((0, 9, 9)))

    def test_columns_and_rows_must_know_their_table(self):
        net = start()
        table = net.change(1, [("row", (1, 1, 1)), ("table", "u")], capability=cap(1)) + (1,)
        net.change(2, [("column", table, "n", "integer"), ("row", table)], capability=cap(2), heard={1: 0})
        sheet = net.sheet()
        self.assertEqual((sheet.columns[table], sheet.live[table]), ([], []))
        self.assertIsNone(sheet.table_of((2, 1, 0)))
        self.assertIsNone(sheet.table_of((2, 1, 1)))
        self.assertIsNone(sheet.table_of((1, 1, 0)))
        net.change(2, [("column", table, "n", "integer"), ("row", table)], capability=cap(2))
        sheet = net.sheet()
        self.assertEqual((sheet.columns[table], sheet.live[table]), ([(2, 2, 0)], [(2, 2, 1)]))

    def test_columns_and_rows_need_an_effective_table(self):
        net = start()
        name = net.change(0, [("table", "u")])
        net.change(0, [("column", spot(name, 0), "n", "integer"), ("row", spot(name, 0))])
        net.change(0, [("undo", name)])
        sheet = net.sheet()
        self.assertEqual(sheet.tables, [TABLE])
        self.assertIsNone(sheet.table_of((0, 3, 0)))
        self.assertIsNone(sheet.table_of((0, 3, 1)))

    def test_what_is_no_table(self):
        net = start()
        net.change(0, [("column", N, "n", "integer"), ("row", N), ("row", TABLE), ("row", (0, 2, 2)),
                       ("row", (0, 9, 0))])
        sheet = net.sheet()
        self.assertEqual(sheet.live, {TABLE: [(0, 2, 2)]})
        self.assertEqual([sheet.table_of((0, 2, place)) for place in range(5)], [None, None, TABLE, None, None])
        self.assertIsNone(sheet.table_of(TABLE))

    def test_the_table_of_a_reference_need_not_be_there(self):
        net = start()
        name = net.change(0, [("column", TABLE, "x", ("refer", (2, 9, 9)))])
        self.assertEqual(net.sheet().columns[TABLE][-1], spot(name, 0))
        self.assertEqual(net.sheet().holds(spot(name, 0)), ("refer", (2, 9, 9)))

    def test_each_space_for_itself(self):
        net = start()
        net.change(0, parts={1: [("row", TABLE)], 2: [("table", "u")]})
        self.assertEqual(net.sheet(0).live, {TABLE: []})
        self.assertEqual(net.sheet(1).tables, [])
        self.assertEqual(net.sheet(2).tables, [(0, 2, 0)])

    def test_unknown_parts_make_nothing(self):
        net = start()
        net.change(0, parts={0: UNKNOWN, 1: [("table", "u")]})
        self.assertEqual(net.sheet().tables, [TABLE])
        self.assertEqual(net.sheet(1).tables, [(0, 2, 0)])


class Rules(unittest.TestCase):
    def rules(self, net):
        sheet = net.sheet()
        self.assertEqual(len(sheet.rules[TABLE]), len(sheet.rule_spots[TABLE]))
        return list(zip(sheet.rule_spots[TABLE], sheet.rules[TABLE]))

    def test_rules_in_order(self):
        net = start()
        name = net.change(0, [("unique", TABLE, (N,)), ("unique", TABLE, (R, S, B)), ("unique", TABLE, (N,))])
        self.assertEqual(self.rules(net), [(spot(name, 0), (N,)), (spot(name, 1), (R, S, B)), (spot(name, 2), (N,))])

    def test_no_column(self):
        net = start()
        net.change(0, [("unique", TABLE, ())])
        self.assertEqual(self.rules(net), [])

    def test_what_holds_no_values(self):
        for column in (C, K, L):
            for columns in ((column,), (N, column), (column, S)):
                net = start()
                net.change(0, [("unique", TABLE, columns)])
                self.assertEqual(self.rules(net), [])

    def test_columns_of_another_table_and_no_columns(self):
        net = start()
        net.change(0, [("table", "u"), ("column", (0, 2, 0), "n", "integer"), ("row", TABLE)])
        net.change(0, [("unique", TABLE, ((0, 2, 1),)), ("unique", TABLE, (N, (0, 2, 1))),
                       ("unique", (0, 2, 0), (N,)), ("unique", TABLE, ((0, 2, 2),)), ("unique", TABLE, (TABLE,)),
                       ("unique", TABLE, ((0, 9, 9),)), ("unique", N, (N,))])
        sheet = net.sheet()
        self.assertEqual(sheet.rules, {TABLE: [], (0, 2, 0): []})
        self.assertEqual(sheet.rule_spots, {TABLE: [], (0, 2, 0): []})

    def test_the_table_and_the_columns_must_be_known(self):
        net = start()
        made = net.change(1, [("column", TABLE, "m", "integer"), ("table", "u"),
                              ("column", (1, 1, 1), "n", "integer")], capability=cap(1))
        acts = [("unique", TABLE, (N, spot(made, 0))), ("unique", spot(made, 1), (spot(made, 2),))]
        net.change(2, acts, capability=cap(2), heard={1: 0})
        self.assertEqual(net.sheet().rules, {TABLE: [], spot(made, 1): []})
        net.change(2, acts, capability=cap(2))
        self.assertEqual(net.sheet().rules, {TABLE: [(N, spot(made, 0))], spot(made, 1): [(spot(made, 2),)]})
        net.change(0, [("undo", made)])
        self.assertEqual(net.sheet().rules, {TABLE: []})

    def test_a_rule_may_be_undone(self):
        net = start()
        name = net.change(0, [("unique", TABLE, (N,))])
        net.change(0, [("undo", name)])
        self.assertEqual(self.rules(net), [])


class Rows(unittest.TestCase):
    def test_live_rows_in_order(self):
        net = start()
        net.change(2, [("row", TABLE)], capability=cap(2), heard={1: 0})
        net.change(1, [("row", TABLE), ("row", TABLE)], capability=cap(1), heard={2: 0})
        self.assertEqual(net.sheet().live, {TABLE: [(1, 1, 0), (1, 1, 1), (2, 1, 0)]})

    def test_dropped_rows(self):
        net = start()
        net.change(0, [("row", TABLE), ("row", TABLE)])
        name = net.change(1, [("drop", (0, 2, 0)), ("drop", (0, 2, 0)), ("drop", (0, 9, 9)), ("drop", TABLE)],
                          capability=cap(1))
        sheet = net.sheet()
        self.assertEqual(sheet.live, {TABLE: [(0, 2, 1)]})
        self.assertEqual(sheet.table_of((0, 2, 0)), TABLE)
        self.assertEqual(sheet.tables, [TABLE])
        net.change(0, [("undo", name)])
        self.assertEqual(net.sheet().live, {TABLE: [(0, 2, 0), (0, 2, 1)]})

    def test_a_drop_must_know_the_row(self):
        net = start()
        net.change(0, [("drop", (0, 2, 1)), ("row", TABLE)])
        net.change(1, [("drop", (0, 2, 1))], capability=cap(1), heard={0: 1})
        self.assertEqual(net.sheet().live, {TABLE: [(0, 2, 1)]})

    def test_a_drop_must_be_effective(self):
        net = start()
        net.change(0, [("row", TABLE)])
        net.change(1, [("drop", (0, 2, 0))])
        self.assertEqual(net.sheet().live, {TABLE: [(0, 2, 0)]})


class Knowing(unittest.TestCase):
    def test_as_the_acts_know(self):
        net = start()
        net.change(1, [("row", TABLE)], capability=cap(1))
        net.change(2, [("row", TABLE)], capability=cap(2), heard={1: 0})
        sheet = net.sheet()
        self.assertIs(sheet.knows((1, 1, 0), TABLE), True)
        self.assertIs(sheet.knows(TABLE, (1, 1, 0)), False)
        self.assertIs(sheet.knows((2, 1, 0), (1, 1, 0)), False)
        self.assertIs(sheet.knows(N, TABLE), True)
        self.assertIs(sheet.knows(TABLE, TABLE), False)

    def test_what_is_cut_away_counts_as_knowing(self):
        net = Net(2)
        net.store.cut = [2, 0]
        net.change(0, [("table", "t")])
        sheet = net.sheet()
        self.assertIs(sheet.knows((0, 1, 0), (0, 2, 0)), True)
        self.assertIs(sheet.knows((0, 2, 0), (0, 1, 5)), True)
        self.assertIs(sheet.knows((0, 3, 0), (0, 2, 0)), True)
        self.assertIs(sheet.knows((0, 3, 0), (1, 1, 0)), False)


class KeptThings(unittest.TestCase):
    def test_what_is_kept_is_made(self):
        net = Net(2)
        net.store.cut = [5, 1]
        rule, row, lens = (0, 3, 0), (1, 1, 0), (0, 4, 0)
        acts = [(TABLE, ("table", "t")), (N, ("column", TABLE, "n", "integer")), (rule, ("unique", TABLE, (N,))),
                (row, ("row", TABLE)), (lens, ("lens", "v", TABLE, ((N, "x"),), ((N, 5),)))]
        net.store.kept[0] = Kept(acts, [], [], [])
        sheet = net.sheet()
        self.assertEqual(sheet.acts, acts)
        self.assertEqual(sheet.tables, [TABLE])
        self.assertEqual(sheet.columns, {TABLE: [N]})
        self.assertEqual((sheet.rules, sheet.rule_spots), ({TABLE: [(N,)]}, {TABLE: [rule]}))
        self.assertEqual(sheet.live, {TABLE: [row]})
        self.assertEqual(sheet.lenses, [lens])
        self.assertEqual(sheet.lens(lens), (TABLE, [(N, "x")], [(N, 5)]))
        net.change(0, [("drop", row), ("row", TABLE), ("lens", "w", lens, (), ())])
        sheet = net.sheet()
        self.assertEqual(sheet.live, {TABLE: [(0, 6, 1)]})
        self.assertEqual(sheet.lenses, [lens, (0, 6, 2)])


class Lenses(unittest.TestCase):
    def made(self, *acts, net=None):
        """The lenses that are told after the founder makes these acts."""
        net = net or start()
        net.change(0, list(acts))
        return net.sheet()

    def refused(self, *acts):
        for act in acts:
            self.assertEqual(self.made(act).lenses, [], act)

    def test_on_a_table(self):
        sheet = self.made(("lens", "v", TABLE, ((S, "x"), (C, "y")), ((N, 5), (B, None))))
        self.assertEqual(sheet.lenses, [(0, 2, 0)])
        self.assertEqual(sheet.lens((0, 2, 0)), (TABLE, [(S, "x"), (C, "y")], [(N, 5), (B, None)]))

    def test_nothing_shown_and_nothing_fixed(self):
        sheet = self.made(("lens", "v", TABLE, (), ()))
        self.assertEqual(sheet.lens((0, 2, 0)), (TABLE, [], []))

    def test_all_kinds_of_columns_may_be_shown(self):
        shown = tuple((column, "x" + str(place)) for place, column in enumerate((N, S, B, R, C, K, L)))
        sheet = self.made(("lens", "v", TABLE, shown, ()))
        self.assertEqual(sheet.lens((0, 2, 0)), (TABLE, list(shown), []))

    def test_a_column_may_be_shown_and_fixed(self):
        sheet = self.made(("lens", "v", TABLE, ((N, "x"),), ((N, 5),)))
        self.assertEqual(sheet.lens((0, 2, 0)), (TABLE, [(N, "x")], [(N, 5)]))

    def test_on_another_lens(self):
        sheet = self.made(
            ("lens", "v", TABLE, ((N, "x"), (S, "y"), (B, "z")), ((N, 5),)),
            ("lens", "w", (0, 2, 0), ((B, "q"), (N, "p")), ((S, "a"), (N, 6))),
            ("lens", "u", (0, 2, 1), ((N, "id2"),), ((B, True),)))
        self.assertEqual(sheet.lenses, [(0, 2, 0), (0, 2, 1), (0, 2, 2)])
        self.assertEqual(sheet.lens((0, 2, 1)), (TABLE, [(B, "q"), (N, "p")], [(N, 5), (S, "a"), (N, 6)]))
        self.assertEqual(sheet.lens((0, 2, 2)), (TABLE, [(N, "id2")], [(N, 5), (S, "a"), (N, 6), (B, True)]))

    def test_the_columns_of_a_lens_are_those_that_it_shows(self):
        base = ("lens", "v", TABLE, ((S, "y"),), ((N, 5),))
        sheet = self.made(base, ("lens", "w", (0, 2, 0), ((N, "x"),), ()), ("lens", "w", (0, 2, 0), (), ((N, 5),)),
                          ("lens", "w", (0, 2, 0), ((S, "x"),), ()))
        self.assertEqual(sheet.lenses, [(0, 2, 0), (0, 2, 3)])

    def test_what_is_no_base(self):
        self.refused(("lens", "v", N, (), ()), ("lens", "v", (0, 9, 0), (), ()), ("lens", "v", (0, 2, 0), (), ()),
                     ("lens", "v", (0, 2, 1), (), ()))
        sheet = self.made(("lens", "v", TABLE, ((N, "id"),), ()), ("lens", "w", (0, 2, 0), (), ()))
        self.assertEqual(sheet.lenses, [])

    def test_what_is_no_column_of_the_base(self):
        self.refused(("lens", "v", TABLE, ((TABLE, "x"),), ()), ("lens", "v", TABLE, (((0, 9, 0), "x"),), ()),
                     ("lens", "v", TABLE, (), (((0, 9, 0), None),)))
        net = start()
        net.change(0, [("table", "u"), ("column", (0, 2, 0), "n", "integer")])
        sheet = self.made(("lens", "v", TABLE, (((0, 2, 1), "x"),), ()), ("lens", "v", TABLE, (), (((0, 2, 1), 1),)),
                          net=net)
        self.assertEqual(sheet.lenses, [])

    def test_nothing_stands_twice(self):
        self.refused(("lens", "v", TABLE, ((N, "x"), (N, "y")), ()), ("lens", "v", TABLE, ((N, "x"), (S, "x")), ()),
                     ("lens", "v", TABLE, (), ((N, 1), (N, 2))), ("lens", "v", TABLE, (), ((N, 1), (N, 1))))

    def test_no_name_is_id(self):
        self.refused(("lens", "v", TABLE, ((N, "id"),), ()), ("lens", "v", TABLE, ((N, "x"), (S, "id")), ()))

    def test_what_may_be_fixed(self):
        kinds = {N: (1, 0, None), S: ("a", "", None), B: (True, False, None)}
        for column in (N, S, B, R, C, K, L):
            for value in (None, 1, 0, "a", "", True, False):
                fits = any(value == each and type(value) is type(each) for each in kinds.get(column, ()))
                sheet = self.made(("lens", "v", TABLE, (), ((column, value),)))
                self.assertEqual(sheet.lenses, [(0, 2, 0)] if fits else [], (column, value))
        self.refused(("lens", "v", TABLE, (), ((R, TABLE),)))

    def test_the_base_and_the_columns_must_be_known(self):
        net = start()
        made = net.change(1, [("table", "u"), ("column", TABLE, "m", "integer"), ("lens", "v", TABLE, (), ())],
                          capability=cap(1))
        acts = [("lens", "a", spot(made, 0), (), ()), ("lens", "b", TABLE, ((spot(made, 1), "x"),), ()),
                ("lens", "c", TABLE, (), ((spot(made, 1), 1),)), ("lens", "d", spot(made, 2), (), ())]
        net.change(2, acts, capability=cap(2), heard={1: 0})
        self.assertEqual(net.sheet().lenses, [spot(made, 2)])
        net.change(2, acts, capability=cap(2))
        self.assertEqual(net.sheet().lenses, [spot(made, 2)] + [(2, 2, place) for place in range(4)])
        net.change(0, [("undo", made)])
        self.assertEqual(net.sheet().lenses, [])

    def test_lenses_stand_in_the_order_of_the_acts(self):
        net = start()
        net.change(2, [("lens", "v", TABLE, (), ())], capability=cap(2), heard={1: 0})
        net.change(1, [("lens", "v", TABLE, (), ())], capability=cap(1), heard={2: 0})
        self.assertEqual(net.sheet().lenses, [(1, 1, 0), (2, 1, 0)])

    def test_the_lists_are_new(self):
        sheet = self.made(("lens", "v", TABLE, ((N, "x"),), ((S, "a"),)))
        _, shown, fixed = sheet.lens((0, 2, 0))
        shown.clear()
        fixed.clear()
        self.assertEqual(sheet.lens((0, 2, 0)), (TABLE, [(N, "x")], [(S, "a")]))


class Entries(unittest.TestCase):
    def test_entries_of_all_kinds(self):
        net = start()
        row = net.change(0, [("row", TABLE)]) + (0,)
        name = net.change(1, [
            ("put", row, N, 5), ("put", row, S, "x"), ("put", row, B, False), ("refer", row, R, row),
            ("add", row, C, 3), ("add", row, C, 4), ("add", row, K, 6), ("spend", row, K, 2),
            ("insert", row, L, None, "hi")], capability=cap(1))
        sheet = net.sheet()
        told = [sheet.entry(row, column) for column in (N, S, B, R, C, K, L)]
        self.assertEqual(told, [5, "x", False, row, 7, 4, "hi"])
        self.assertEqual([sheet.counted(row, column) for column in (N, S, B, R, C, K, L)],
                         [spot(name, place) for place in range(4)] + [None] * 3)
        self.assertEqual([sheet.shown(row, column) for column in (N, S, B, R, C, K, L)],
                         [[5], ["x"], [False], [row], [], [], []])

    def test_a_row_that_is_not_live(self):
        net = start()
        row = net.change(0, [("row", TABLE)]) + (0,)
        net.change(0, [("put", row, N, 5), ("add", row, C, 3), ("add", row, K, 6), ("insert", row, L, None, "hi"),
                       ("drop", row)])
        sheet = net.sheet()
        self.assertEqual([sheet.entry(row, column) for column in (N, C, K, L)], [5, 3, 0, "hi"])


if __name__ == "__main__":
    unittest.main()
