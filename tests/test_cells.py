"""Points 30 to 33: which acts have an effect on a cell, which writes show, counters."""

import unittest

from kithwhole.cells import has_kind, shown_writes
from kithwhole.sheets import Sheet
from kithwhole.store import Kept
from tests.support import ALL_RIGHTS, Net

TABLE = (0, 1, 0)
HOLDS = ("integer", "text", "boolean", "counter", "stock", "letters", ("refer", TABLE))
COLUMN = {holds: (0, 1, 1 + index) for index, holds in enumerate(HOLDS)}
REFER = COLUMN[("refer", TABLE)]
ROW = (0, 1, 8)
NUMBER = COLUMN["integer"]


def start(members=3):
    """The founder makes a table with a column of each kind and a row, and invites the others."""
    net = Net(members)
    acts = [("table", "t")]
    acts += [("column", TABLE, "c" + str(index), holds) for index, holds in enumerate(HOLDS)]
    acts += [("row", TABLE)]
    publics = [("grant", member, ALL_RIGHTS) for member in range(1, members)]
    net.change(0, acts, publics=publics)
    return net


def cap(member):
    return (0, 1, member - 1)


class Kinds(unittest.TestCase):
    def test_what_a_put_may_write(self):
        told = {
            "integer": (None, 0, 1, -5, 10 ** 39),
            "text": (None, "", "x"),
            "boolean": (None, True, False),
        }
        values = (None, 0, 1, -5, 10 ** 39, "", "x", True, False)
        for holds in HOLDS:
            for value in values:
                fits = any(value == each and type(value) is type(each) for each in told.get(holds, ()))
                self.assertIs(has_kind(holds, value), fits, (holds, value))


class Effects(unittest.TestCase):
    def test_puts(self):
        for holds in HOLDS:
            for value in (None, 3, "x", True, False, 0):
                net = start()
                name = net.change(0, [("put", ROW, COLUMN[holds], value)])
                sheet = net.sheet()
                writes = [name + (0,)] if has_kind(holds, value) else []
                self.assertEqual(sheet.writes(ROW, COLUMN[holds]), writes, (holds, value))
                if writes:
                    told = sheet.entry(ROW, COLUMN[holds])
                    self.assertIs(type(told), type(value))
                    self.assertEqual(told, value)
                    self.assertEqual(sheet.counted(ROW, COLUMN[holds]), name + (0,))

    def test_nothing_is_written(self):
        sheet = start().sheet()
        told = [sheet.entry(ROW, COLUMN[holds]) for holds in HOLDS]
        self.assertEqual(told, [None, None, None, 0, 0, "", None])
        for holds in HOLDS:
            self.assertEqual(sheet.writes(ROW, COLUMN[holds]), [])
            self.assertEqual(sheet.shown(ROW, COLUMN[holds]), [])
            self.assertIsNone(sheet.counted(ROW, COLUMN[holds]))

    def test_other_acts_have_no_effect(self):
        acts = {
            "refer": lambda column: ("refer", ROW, column, ROW),
            "add": lambda column: ("add", ROW, column, 4),
            "spend": lambda column: ("spend", ROW, column, 1),
            "lend": lambda column: ("lend", ROW, column, 1, 1),
            "insert": lambda column: ("insert", ROW, column, None, "ab"),
        }
        fitting = {("refer", ("refer", TABLE)): ROW, ("add", "counter"): 4, ("add", "stock"): 4,
                   ("insert", "letters"): "ab"}
        nothing = {"counter": 0, "stock": 0, "letters": ""}
        for word, act in acts.items():
            for holds in HOLDS:
                net = start()
                net.change(0, [act(COLUMN[holds])])
                told = net.sheet().entry(ROW, COLUMN[holds])
                self.assertEqual(told, fitting.get((word, holds), nothing.get(holds)), (word, holds))

    def test_no_reference_in_a_column_of_values_and_no_value_in_one_of_references(self):
        net = start()
        net.change(0, [("put", ROW, NUMBER, 5), ("refer", ROW, REFER, ROW)])
        net.change(0, [("refer", ROW, NUMBER, None), ("put", ROW, REFER, None)])
        sheet = net.sheet()
        self.assertEqual(sheet.shown(ROW, NUMBER), [5])
        self.assertEqual(sheet.shown(ROW, REFER), [ROW])

    def test_the_row_and_the_column_must_be_known(self):
        net = start()
        made = net.change(1, [("row", TABLE), ("column", TABLE, "n", "integer"), ("column", TABLE, "m", "counter")],
                          capability=cap(1))
        row, column, counter = [made + (place,) for place in range(3)]
        net.change(2, [("put", row, NUMBER, 1), ("put", ROW, column, 2), ("add", ROW, counter, 3)],
                   capability=cap(2), heard={1: 0})
        sheet = net.sheet()
        self.assertEqual(sheet.writes(row, NUMBER), [])
        self.assertEqual(sheet.writes(ROW, column), [])
        self.assertEqual(sheet.entry(ROW, counter), 0)
        net.change(2, [("put", row, NUMBER, 1), ("put", ROW, column, 2), ("add", ROW, counter, 3)],
                   capability=cap(2))
        sheet = net.sheet()
        self.assertEqual((sheet.entry(row, NUMBER), sheet.entry(ROW, column), sheet.entry(ROW, counter)), (1, 2, 3))

    def test_the_row_and_the_column_must_be_effective(self):
        net = start()
        made = net.change(0, [("row", TABLE)])
        net.change(0, [("put", made + (0,), NUMBER, 1)])
        net.change(0, [("undo", made)])
        self.assertEqual(net.sheet().writes(made + (0,), NUMBER), [])
        self.assertIsNone(net.sheet().entry(made + (0,), NUMBER))

    def test_the_row_and_the_column_must_be_of_one_table(self):
        net = start()
        other = net.change(0, [("table", "u"), ("column", (0, 2, 0), "n", "integer"), ("row", (0, 2, 0))])
        column, row = other + (1,), other + (2,)
        net.change(0, [("put", ROW, column, 1), ("put", row, NUMBER, 2), ("put", row, column, 3)])
        sheet = net.sheet()
        self.assertEqual(sheet.writes(ROW, column), [])
        self.assertEqual(sheet.writes(row, NUMBER), [])
        self.assertEqual(sheet.entry(row, column), 3)

    def test_undone_writes_have_no_effect(self):
        net = start()
        first = net.change(0, [("put", ROW, NUMBER, 1)])
        second = net.change(0, [("put", ROW, NUMBER, 2)])
        self.assertEqual(net.sheet().shown(ROW, NUMBER), [2])
        net.change(0, [("undo", second)])
        self.assertEqual(net.sheet().shown(ROW, NUMBER), [1])
        self.assertEqual(net.sheet().writes(ROW, NUMBER), [first + (0,)])

    def test_a_row_that_is_dropped_still_has_cells(self):
        net = start()
        net.change(0, [("put", ROW, NUMBER, 1), ("add", ROW, COLUMN["counter"], 2), ("drop", ROW)])
        sheet = net.sheet()
        self.assertEqual(sheet.entry(ROW, NUMBER), 1)
        self.assertEqual(sheet.entry(ROW, COLUMN["counter"]), 2)


class References(unittest.TestCase):
    def refers(self, net, target, author=0, heard=None):
        """The entry after a reference to the target is written."""
        capability = None if author == 0 else cap(author)
        net.change(author, [("refer", ROW, REFER, target)], capability=capability, heard=heard)
        sheet = net.sheet()
        self.assertEqual(len(sheet.writes(ROW, REFER)), 0 if sheet.entry(ROW, REFER) is None else 1)
        return sheet.entry(ROW, REFER)

    def test_a_row_of_the_table(self):
        net = start()
        row = net.change(1, [("row", TABLE)], capability=cap(1)) + (0,)
        self.assertEqual(self.refers(net, row), row)

    def test_the_row_itself(self):
        self.assertEqual(self.refers(start(), ROW), ROW)

    def test_none_shows(self):
        net = start()
        net.change(0, [("refer", ROW, REFER, ROW)])
        name = net.change(0, [("refer", ROW, REFER, None)])
        sheet = net.sheet()
        self.assertEqual(sheet.shown(ROW, REFER), [None])
        self.assertEqual(sheet.counted(ROW, REFER), name + (0,))
        self.assertIsNone(sheet.entry(ROW, REFER))

    def test_a_row_that_is_not_known(self):
        net = start()
        row = net.change(1, [("row", TABLE)], capability=cap(1)) + (0,)
        self.assertIsNone(self.refers(net, row, author=2, heard={1: 0}))

    def test_a_row_of_another_table(self):
        net = start()
        name = net.change(0, [("table", "u"), ("row", (0, 2, 0))])
        self.assertIsNone(self.refers(net, name + (1,)))

    def test_what_is_no_row(self):
        for target in (TABLE, NUMBER, (0, 1, 99), (0, 9, 0), (7, 1, 0)):
            self.assertIsNone(self.refers(start(), target))

    def test_a_row_that_is_undone(self):
        net = start()
        name = net.change(0, [("row", TABLE)])
        net.change(0, [("undo", name)])
        self.assertIsNone(self.refers(net, name + (0,)))

    def test_a_table_that_the_row_does_not_know(self):
        net = start()
        table = net.change(1, [("table", "u")], capability=cap(1)) + (0,)
        row = net.change(2, [("row", table)], capability=cap(2), heard={1: 0}) + (0,)
        column = net.change(0, [("column", TABLE, "r", ("refer", table))]) + (0,)
        net.change(0, [("refer", ROW, column, row)])
        self.assertEqual(net.sheet().writes(ROW, column), [])

    def test_the_table_of_the_column_need_not_be_known(self):
        net = start()
        column = net.change(1, [("column", TABLE, "r", ("refer", (2, 1, 0)))], capability=cap(1)) + (0,)
        net.change(2, [("table", "u"), ("row", (2, 1, 0))], capability=cap(2), heard={1: 0})
        net.change(0, [("refer", ROW, column, (2, 1, 1))])
        self.assertEqual(net.sheet().entry(ROW, column), (2, 1, 1))

    def dropped(self, seal_first, seal_behind):
        net = start()
        row = net.change(0, [("row", TABLE)]) + (0,)
        if seal_first:
            net.seal()
        net.change(1, [("drop", row)], capability=cap(1))
        if seal_behind:
            net.seal()
        return net, row

    def test_a_dropped_row(self):
        # It still has an effect while the drop is not closed; the row does not show then.
        net, row = self.dropped(True, False)
        self.assertEqual(self.refers(net, row), row)

    def test_a_dropped_row_when_the_drop_is_closed(self):
        net, row = self.dropped(False, True)
        self.assertIsNone(self.refers(net, row))

    def test_a_drop_that_is_closed_only_for_later_acts(self):
        net, row = self.dropped(False, False)
        name = net.change(2, [("refer", ROW, REFER, row)], capability=cap(2))
        net.seal()
        self.assertEqual(net.sheet().writes(ROW, REFER), [name + (0,)])
        net.change(2, [("refer", ROW, REFER, row)], capability=cap(2))
        self.assertEqual(net.sheet().writes(ROW, REFER), [name + (0,)])

    def test_a_closed_drop_that_does_not_know_the_row(self):
        net = start()
        row = net.change(0, [("row", TABLE)]) + (0,)
        net.change(1, [("drop", row)], capability=cap(1), heard={0: 1})
        net.seal()
        self.assertEqual(self.refers(net, row), row)

    def test_a_closed_drop_that_is_undone(self):
        net, row = self.dropped(False, False)
        net.change(0, [("undo", (1, 1))], publics=[("seal",)])
        self.assertEqual(self.refers(net, row), row)


class ShownWrites(unittest.TestCase):
    def test_a_known_write_does_not_show(self):
        net = start()
        net.change(0, [("put", ROW, NUMBER, 1), ("put", ROW, NUMBER, 2)])
        sheet = net.sheet()
        self.assertEqual(sheet.writes(ROW, NUMBER), [(0, 2, 0), (0, 2, 1)])
        self.assertEqual(sheet.shown(ROW, NUMBER), [2])

    def concurrent(self):
        net = start()
        net.change(0, [("put", ROW, NUMBER, 5)])
        net.change(2, [("put", ROW, NUMBER, 7)], capability=cap(2), heard={1: 0})
        net.change(1, [("put", ROW, NUMBER, 6)], capability=cap(1), heard={2: 0})
        return net

    def test_concurrent_writes_show_in_order_and_the_last_counts(self):
        sheet = self.concurrent().sheet()
        self.assertEqual(sheet.shown(ROW, NUMBER), [6, 7])
        self.assertEqual(sheet.counted(ROW, NUMBER), (2, 1, 0))
        self.assertEqual(sheet.entry(ROW, NUMBER), 7)

    def test_a_write_that_knows_one_of_them(self):
        net = self.concurrent()
        net.change(0, [("put", ROW, NUMBER, 8)], heard={2: 0})
        # (0, 3) stands behind (2, 1): it had heard of more.
        self.assertEqual(net.sheet().shown(ROW, NUMBER), [7, 8])
        net.change(0, [("put", ROW, NUMBER, None)])
        self.assertEqual(net.sheet().shown(ROW, NUMBER), [None])

    def test_equal_values_both_show(self):
        net = start()
        net.change(0, [("put", ROW, NUMBER, 5)])
        net.change(1, [("put", ROW, NUMBER, 5)], capability=cap(1), heard={0: 1})
        self.assertEqual(net.sheet().shown(ROW, NUMBER), [5, 5])

    def test_only_a_write_with_an_effect_hides_another(self):
        net = start()
        net.change(0, [("put", ROW, NUMBER, 5)])
        net.change(0, [("put", ROW, NUMBER, True), ("refer", ROW, NUMBER, ROW), ("add", ROW, NUMBER, 1)])
        self.assertEqual(net.sheet().shown(ROW, NUMBER), [5])

    def test_the_function(self):
        net = self.concurrent()
        writes = [(0, 2, 0), (1, 1, 0), (2, 1, 0)]
        allowed = net.allowed()
        self.assertEqual(shown_writes(net.store, allowed, writes), [(1, 1, 0), (2, 1, 0)])
        self.assertEqual(shown_writes(net.store, allowed, writes[:1]), writes[:1])
        self.assertEqual(shown_writes(net.store, allowed, []), [])
        self.assertEqual(writes, [(0, 2, 0), (1, 1, 0), (2, 1, 0)])
        alone = [(0, 2, 0)]
        self.assertIsNot(shown_writes(net.store, allowed, alone), alone)


class Counters(unittest.TestCase):
    def test_the_sum_of_all_amounts(self):
        net = start()
        counter = COLUMN["counter"]
        net.change(0, [("add", ROW, counter, 5), ("add", ROW, counter, -7)])
        first = net.change(1, [("add", ROW, counter, 10 ** 39)], capability=cap(1), heard={0: 1})
        net.change(2, [("add", ROW, counter, 10 ** 40 - 1)], capability=cap(2))
        self.assertEqual(net.sheet().entry(ROW, counter), 10 ** 39 + 10 ** 40 - 3)
        net.change(0, [("undo", first)])
        self.assertEqual(net.sheet().entry(ROW, counter), 10 ** 40 - 3)


class KeptWrites(unittest.TestCase):
    def kept(self, acts, sums=(), columns=HOLDS):
        """A store in which the table, the columns, the row and these acts are kept."""
        net = Net(2)
        net.store.cut = [4, 1]
        net.store.capabilities = [((0, 1, 0), None, 1, ALL_RIGHTS)]
        made = [(TABLE, ("table", "t"))]
        made += [(COLUMN[holds], ("column", TABLE, "c", holds)) for holds in columns]
        made += [(ROW, ("row", TABLE))]
        net.store.kept[0] = Kept(made + acts, sums, [], [])
        return net

    def test_kept_writes_have_an_effect_and_know_no_act(self):
        net = self.kept([((0, 3, 0), ("put", ROW, NUMBER, 1)), ((0, 4, 0), ("put", ROW, NUMBER, 2))])
        sheet = net.sheet()
        self.assertEqual(sheet.writes(ROW, NUMBER), [(0, 3, 0), (0, 4, 0)])
        self.assertEqual(sheet.shown(ROW, NUMBER), [1, 2])
        self.assertEqual(sheet.counted(ROW, NUMBER), (0, 4, 0))
        net.change(0, [("put", ROW, NUMBER, 3)])
        self.assertEqual(net.sheet().shown(ROW, NUMBER), [3])

    def test_a_kept_reference_has_an_effect_whatever_its_target(self):
        net = self.kept([((0, 3, 0), ("refer", ROW, REFER, (0, 2, 9)))])
        self.assertEqual(net.sheet().entry(ROW, REFER), (0, 2, 9))
        net.change(0, [("refer", ROW, REFER, (0, 2, 9))])
        self.assertEqual(net.sheet().writes(ROW, REFER), [(0, 3, 0)])

    def test_there_are_no_writes_for_counters_stocks_and_letters(self):
        for holds in ("counter", "stock", "letters"):
            net = self.kept([((0, 3, 0), ("put", ROW, COLUMN[holds], None))])
            self.assertEqual(net.sheet().writes(ROW, COLUMN[holds]), [])

    def test_only_writes_are_writes(self):
        net = self.kept([((0, 3, 0), ("add", ROW, NUMBER, 1)), ((0, 3, 1), ("insert", ROW, NUMBER, None, "a"))])
        self.assertEqual(net.sheet().writes(ROW, NUMBER), [])

    def test_a_kept_write_needs_its_cell(self):
        net = self.kept([((0, 3, 0), ("put", ROW, NUMBER, 1))], columns=("text",))
        self.assertEqual(net.sheet().writes(ROW, NUMBER), [])

    def test_kept_sums(self):
        counter = COLUMN["counter"]
        net = self.kept([], [((ROW, counter), 12)])
        self.assertEqual(net.sheet().entry(ROW, counter), 12)
        net.change(1, [("add", ROW, counter, -2)], capability=(0, 1, 0))
        self.assertEqual(net.sheet().entry(ROW, counter), 10)
        net.store.kept[0].sums.clear()
        self.assertEqual(net.sheet().entry(ROW, counter), -2)

    def test_what_is_kept_is_not_known(self):
        net = self.kept([], [((ROW, COLUMN["counter"]), 12)])
        net.store.kept[0] = None
        sheet = net.sheet()
        self.assertEqual((sheet.acts, sheet.tables, sheet.entry(ROW, COLUMN["counter"])), ([], [], None))


class Snapshots(unittest.TestCase):
    def test_a_sheet_does_not_follow_the_store(self):
        net = start()
        net.change(0, [("put", ROW, NUMBER, 1), ("insert", ROW, COLUMN["letters"], None, "a"),
                       ("add", ROW, COLUMN["stock"], 5), ("add", ROW, COLUMN["counter"], 6)])
        allowed = net.allowed()
        sheet = Sheet(net.store, allowed, 0)

        def told():
            return ([sheet.entry(ROW, COLUMN[holds]) for holds in HOLDS], sheet.writes(ROW, NUMBER),
                    sheet.knows((0, 2, 0), (0, 1, 0)), sheet.members, list(sheet.acts))

        before = told()
        self.assertEqual(before[0], [1, None, None, 6, 5, "a", None])
        net.change(0, [("undo", (0, 2))])
        net.store.changes[0].clear()
        net.store.cut[0] = 9
        net.store.kept[0] = None
        allowed.clear()
        self.assertEqual(told(), before)
        sheet.writes(ROW, NUMBER).clear()
        sheet.shown(ROW, NUMBER).clear()
        self.assertEqual(told(), before)

    def test_arguments_stay_as_they_are(self):
        net = start()
        net.change(0, [("put", ROW, NUMBER, 1)])
        allowed = net.allowed()
        before = (net.store.data(), dict(allowed))
        sheet = Sheet(net.store, allowed, 0)
        sheet.entry(ROW, NUMBER)
        self.assertEqual((net.store.data(), allowed), before)


if __name__ == "__main__":
    unittest.main()
