"""Points 43 to 48: keys, rows that yield, rows that show, reasons, conflicts."""

import unittest

from kithwhole.sheets import Sheet
from kithwhole.store import Kept, Store
from kithwhole.yielding import conflicts, reasons, showing
from tests.support import ALL_RIGHTS, Net

TABLE = (0, 1, 0)
N, M, B, R, Q, S = [(0, 1, place) for place in range(1, 7)]


def start(*rules, members=3):
    """A table with columns of two numbers, a boolean, two references and a text, and these rules."""
    net = Net(members)
    acts = [("table", "t"), ("column", TABLE, "n", "integer"), ("column", TABLE, "m", "integer"),
            ("column", TABLE, "b", "boolean"), ("column", TABLE, "r", ("refer", TABLE)),
            ("column", TABLE, "q", ("refer", TABLE)), ("column", TABLE, "s", "text")]
    acts += [("unique", TABLE, rule) for rule in rules]
    net.change(0, acts, publics=[("grant", member, ALL_RIGHTS) for member in range(1, members)])
    return net


def cap(member):
    return (0, 1, member - 1)


def rows(net, *entries):
    """The founder makes a row for each dict of entries; a reference is the index of one of these rows."""
    number = net.store.count(0) + 1
    spots = [(0, number, index) for index in range(len(entries))]
    acts = [("row", TABLE) for _ in entries]
    for row, given in zip(spots, entries):
        for column, value in given.items():
            if column in (R, Q):
                acts.append(("refer", row, column, spots[value]))
            else:
                acts.append(("put", row, column, value))
    net.change(0, acts)
    return spots


class Keys(unittest.TestCase):
    def told(self, net):
        return reasons(net.sheet())

    def test_the_first_one_holds_the_key(self):
        net = start((N,))
        a, b, c, d = rows(net, {N: 1}, {N: 2}, {N: 1}, {N: 1})
        self.assertEqual(self.told(net), {c: ("yields", 0, a), d: ("yields", 0, a)})
        self.assertEqual(showing(net.sheet(), TABLE), [a, b])

    def test_all_columns_of_the_rule_are_asked(self):
        net = start((N, S))
        a, b, c, d = rows(net, {N: 1, S: "x"}, {N: 1, S: "y"}, {N: 2, S: "x"}, {N: 1, S: "x"})
        self.assertEqual(self.told(net), {d: ("yields", 0, a)})

    def test_none_in_a_key(self):
        net = start((N, S))
        rows(net, {N: 1}, {N: 1}, {}, {}, {S: "x"}, {S: "x"})
        self.assertEqual(self.told(net), {})

    def test_false_and_zero_are_values(self):
        net = start((B,), (N,), (S,))
        a, b, c, d, e, f = rows(net, {B: False}, {B: False}, {N: 0}, {N: 0}, {S: ""}, {S: ""})
        self.assertEqual(self.told(net), {b: ("yields", 0, a), d: ("yields", 1, c), f: ("yields", 2, e)})

    def test_values_of_other_kinds_are_not_equal(self):
        # Only kept writes can bring a boolean and an integer into one column.
        net = Net(1)
        net.store.cut = [3]
        one, two, three, four = [(0, 2, place) for place in range(4)]
        acts = [(TABLE, ("table", "t")), (N, ("column", TABLE, "n", "integer")), ((0, 1, 9), ("unique", TABLE, (N,)))]
        acts += [(row, ("row", TABLE)) for row in (one, two, three, four)]
        acts += [((0, 3, place), ("put", row, N, value))
                 for place, (row, value) in enumerate(((one, False), (two, 0), (three, 1), (four, True)))]
        net.store.kept[0] = Kept(acts, [], [], [])
        self.assertEqual(self.told(net), {})

    def test_references_are_keys(self):
        net = start((R,))
        a, b, c, d = rows(net, {}, {R: 0}, {R: 0}, {R: 1})
        self.assertEqual(self.told(net), {c: ("yields", 0, b)})

    def test_the_first_rule_is_the_reason(self):
        net = start((M,), (N,))
        a, b, c, d = rows(net, {N: 1, M: 5}, {N: 2, M: 6}, {N: 1, M: 6}, {N: 1})
        self.assertEqual(self.told(net), {c: ("yields", 0, b), d: ("yields", 1, a)})

    def test_a_row_that_yields_still_holds_its_keys(self):
        net = start((N,), (M,))
        a, b, c = rows(net, {N: 1}, {N: 1, M: 2}, {M: 2})
        self.assertEqual(self.told(net), {b: ("yields", 0, a), c: ("yields", 1, b)})

    def test_a_row_that_does_not_show_still_holds_its_keys(self):
        net = start((N,))
        a, b, c = rows(net, {}, {N: 1, R: 0}, {N: 1})
        net.change(0, [("drop", a)])
        self.assertEqual(self.told(net), {b: ("refers", R, a), c: ("yields", 0, b)})

    def test_a_dropped_row_holds_no_key(self):
        net = start((N,))
        a, b, c = rows(net, {N: 1}, {N: 1}, {N: 1})
        net.change(0, [("drop", a)])
        self.assertEqual(self.told(net), {c: ("yields", 0, b)})

    def test_only_the_value_that_counts(self):
        net = start((N,))
        a, b = rows(net, {N: 1}, {N: 2})
        net.change(1, [("put", b, N, 3)], capability=cap(1))
        net.change(2, [("put", b, N, 1)], capability=cap(2), heard={1: 0})
        self.assertEqual(self.told(net), {b: ("yields", 0, a)})
        net.change(0, [("put", a, N, 2)])
        self.assertEqual(self.told(net), {})

    def test_a_column_twice_in_a_rule(self):
        net = start((N, N))
        a, b, c = rows(net, {N: 1}, {N: 2}, {N: 1})
        self.assertEqual(self.told(net), {c: ("yields", 0, a)})

    def test_each_table_for_itself(self):
        net = start((N,))
        a, = rows(net, {N: 1})
        net.change(0, [("table", "u"), ("column", (0, 3, 0), "n", "integer"), ("unique", (0, 3, 0), ((0, 3, 1),)),
                       ("row", (0, 3, 0)), ("put", (0, 3, 3), (0, 3, 1), 1), ("row", (0, 3, 0)),
                       ("put", (0, 3, 5), (0, 3, 1), 1)])
        self.assertEqual(self.told(net), {(0, 3, 5): ("yields", 0, (0, 3, 3))})
        self.assertEqual(showing(net.sheet(), (0, 3, 0)), [(0, 3, 3)])
        self.assertEqual(showing(net.sheet(), TABLE), [a])


class Showing(unittest.TestCase):
    def told(self, net):
        sheet = net.sheet()
        hidden = reasons(sheet)
        for table in sheet.tables:
            self.assertEqual(showing(sheet, table), [row for row in sheet.live[table] if row not in hidden])
        return hidden

    def test_chains_of_references(self):
        net = start()
        a, b, c, d = rows(net, {}, {R: 0}, {Q: 1}, {R: 3})
        self.assertEqual(self.told(net), {})
        net.change(0, [("drop", a)])
        self.assertEqual(self.told(net), {b: ("refers", R, a), c: ("refers", Q, b)})

    def test_a_reference_to_a_row_that_yields(self):
        net = start((N,))
        a, b, c = rows(net, {N: 1}, {N: 1}, {R: 1})
        self.assertEqual(self.told(net), {b: ("yields", 0, a), c: ("refers", R, b)})

    def test_yielding_comes_before_referring(self):
        net = start((N,))
        a, b, c = rows(net, {N: 1}, {N: 1, R: 2}, {})
        net.change(0, [("drop", c)])
        self.assertEqual(self.told(net), {b: ("yields", 0, a)})

    def test_circles_show(self):
        net = start()
        rows(net, {R: 1}, {R: 2}, {R: 0}, {R: 3}, {R: 0})
        self.assertEqual(self.told(net), {})

    def test_a_circle_that_is_broken(self):
        net = start()
        a, b, c, d = rows(net, {R: 1}, {R: 2}, {R: 0, Q: 3}, {})
        net.change(0, [("drop", d)])
        self.assertEqual(self.told(net), {a: ("refers", R, b), b: ("refers", R, c), c: ("refers", R, a)})

    def test_a_circle_with_a_row_that_yields(self):
        net = start((N,))
        a, b, c = rows(net, {N: 1}, {N: 1, R: 2}, {R: 1})
        self.assertEqual(self.told(net), {b: ("yields", 0, a), c: ("refers", R, b)})

    def test_the_first_column_is_the_reason(self):
        net = start()
        a, b, c, d = rows(net, {}, {}, {Q: 0, R: 1}, {R: 3, Q: 0})
        net.change(0, [("drop", a)])
        # The last row refers to itself in the first column, and does not show either.
        self.assertEqual(self.told(net), {c: ("refers", Q, a), d: ("refers", R, d)})
        net.change(0, [("drop", b)])
        self.assertEqual(self.told(net), {c: ("refers", R, b), d: ("refers", R, d)})

    def test_only_the_reference_that_counts(self):
        net = start()
        a, b, c = rows(net, {}, {}, {R: 0})
        net.change(0, [("drop", a)])
        self.assertEqual(self.told(net), {c: ("refers", R, a)})
        net.change(1, [("refer", c, R, b)], capability=cap(1))
        self.assertEqual(self.told(net), {})
        net.change(1, [("refer", c, R, None)], capability=cap(1))
        self.assertEqual(self.told(net), {})

    def kept(self, target_table):
        """A kept reference to a row of a table, in a column that refers to TABLE."""
        net = Net(1)
        net.store.cut = [3]
        other, row, target = (0, 1, 8), (0, 2, 0), (0, 2, 1)
        acts = [(TABLE, ("table", "t")), (other, ("table", "u")), (R, ("column", TABLE, "r", ("refer", TABLE))),
                (row, ("row", TABLE))]
        if target_table is not None:
            acts.append((target, ("row", other if target_table == "u" else TABLE)))
        acts.append(((0, 3, 0), ("refer", row, R, target)))
        net.store.kept[0] = Kept(acts, [], [], [])
        return self.told(net), row, target

    def test_kept_references(self):
        self.assertEqual(self.kept("t")[0], {})
        for table in ("u", None):
            hidden, row, target = self.kept(table)
            self.assertEqual(hidden, {row: ("refers", R, target)})

    def test_long_chains(self):
        net = start()
        spots = rows(net, *[{R: index + 1} for index in range(400)], {})
        self.assertEqual(self.told(net), {})
        net.change(0, [("drop", spots[-1])])
        self.assertEqual(self.told(net), {
            row: ("refers", R, target) for row, target in zip(spots, spots[1:])})


class Conflicts(unittest.TestCase):
    def told(self, net):
        return conflicts(net.sheet())

    def test_none(self):
        self.assertEqual(conflicts(Sheet(Store(2), {}, 0)), ([], [], []))
        net = start((N,))
        rows(net, {N: 1}, {N: 2})
        self.assertEqual(self.told(net), ([], [], []))

    def test_names_of_tables_and_lenses(self):
        net = start()
        net.change(0, [("lens", "u", TABLE, (), ()), ("table", "u"), ("lens", "t", TABLE, (), ()), ("table", "t"),
                       ("table", "v"), ("lens", "u", TABLE, (), ())])
        self.assertEqual(self.told(net)[0], [
            ((0, 2, 1), "u", (0, 2, 0)), ((0, 2, 2), "t", TABLE), ((0, 2, 3), "t", TABLE),
            ((0, 2, 5), "u", (0, 2, 0))])

    def test_names_of_columns(self):
        net = start()
        net.change(0, [("table", "t"), ("column", (0, 2, 0), "id", "text"), ("column", (0, 2, 0), "x", "text"),
                       ("column", TABLE, "id", "integer"), ("column", (0, 2, 0), "id", "text"),
                       ("column", (0, 2, 0), "x", "integer"), ("column", TABLE, "n", "stock"),
                       ("column", TABLE, "x", "text")])
        self.assertEqual(self.told(net)[0], [
            ((0, 2, 0), "t", TABLE),
            ((0, 2, 3), "id", None), ((0, 2, 6), "n", N),
            ((0, 2, 1), "id", None), ((0, 2, 4), "id", None), ((0, 2, 5), "x", (0, 2, 2))])

    def test_a_name_that_is_free_again(self):
        net = start()
        name = net.change(0, [("table", "u")])
        net.change(0, [("table", "u")])
        self.assertEqual(self.told(net)[0], [((0, 3, 0), "u", (0, 2, 0))])
        net.change(0, [("undo", name)])
        self.assertEqual(self.told(net)[0], [])

    def test_rows_of_all_tables_in_the_order_of_the_acts(self):
        net = start((M,), (N,))
        net.change(0, [("table", "u"), ("column", (0, 2, 0), "r", ("refer", TABLE))])
        first, = rows(net, {N: 1})
        gone, = rows(net, {})
        net.change(0, [("row", (0, 2, 0)), ("refer", (0, 5, 0), (0, 2, 1), gone)])
        last, = rows(net, {N: 1})
        net.change(0, [("drop", gone), ("row", (0, 2, 0)), ("refer", (0, 7, 1), (0, 2, 1), last)])
        self.assertEqual(self.told(net)[1], [
            ((0, 5, 0), "refers", (0, 2, 1), gone),
            (last, "yields", 1, first),
            ((0, 7, 1), "refers", (0, 2, 1), last)])

    def test_cells(self):
        net = start((N,))
        a, b, c = rows(net, {N: 1}, {N: 2}, {N: 3})
        net.change(1, [("put", b, M, 5), ("put", b, N, 6), ("refer", a, R, b), ("put", c, N, 7)], capability=cap(1))
        net.change(2, [("put", b, M, None), ("put", b, N, 6), ("refer", a, R, None), ("put", c, N, 8)],
                   capability=cap(2), heard={1: 0})
        net.change(0, [("drop", c)])
        self.assertEqual(self.told(net)[2], [(a, R, (b, None)), (b, N, (6, 6)), (b, M, (5, None))])

    def test_cells_of_rows_that_do_not_show(self):
        net = start((N,))
        a, b = rows(net, {N: 1}, {N: 1})
        net.change(1, [("put", b, M, 5)], capability=cap(1))
        net.change(2, [("put", b, M, 6)], capability=cap(2), heard={1: 0})
        self.assertEqual(self.told(net), ([], [(b, "yields", 0, a)], [(b, M, (5, 6))]))

    def test_cells_of_columns_that_do_not_hold_their_names(self):
        net = start()
        column = net.change(0, [("column", TABLE, "n", "integer")]) + (0,)
        a, = rows(net, {})
        net.change(1, [("put", a, column, 5)], capability=cap(1))
        net.change(2, [("put", a, column, 6)], capability=cap(2), heard={1: 0})
        self.assertEqual(self.told(net), ([(column, "n", N)], [], [(a, column, (5, 6))]))

    def test_counters_stocks_and_letters_have_no_conflicts(self):
        net = Net(2)
        acts = [("table", "t"), ("column", TABLE, "c", "counter"), ("column", TABLE, "k", "stock"),
                ("column", TABLE, "l", "letters"), ("row", TABLE)]
        net.change(0, acts, publics=[("grant", 1, ALL_RIGHTS)])
        row = (0, 1, 4)
        writes = [("add", row, N, 1), ("add", row, M, 2), ("insert", row, B, None, "a")]
        net.change(0, writes)
        net.change(1, writes, capability=(0, 1, 0), heard={0: 1})
        self.assertEqual(self.told(net), ([], [], []))

    def test_the_results_are_new(self):
        net = start((N,))
        rows(net, {N: 1}, {N: 1})
        sheet = net.sheet()
        before = (conflicts(sheet), reasons(sheet), showing(sheet, TABLE))
        for listed in conflicts(sheet):
            listed.clear()
        reasons(sheet).clear()
        showing(sheet, TABLE).clear()
        self.assertEqual((conflicts(sheet), reasons(sheet), showing(sheet, TABLE)), before)


if __name__ == "__main__":
    unittest.main()
