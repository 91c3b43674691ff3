"""Points 112 to 115: which acts for a stock are judged, which are covered, shares, short acts."""

import unittest

from kithwhole.stocks import flows, shares, shorts
from kithwhole.store import Kept
from tests.support import ALL_RIGHTS, NO_RIGHTS, Net

TABLE = (0, 1, 0)
STOCK = (0, 1, 1)
NUMBER = (0, 1, 2)
COUNTER = (0, 1, 3)
ROW = (0, 1, 4)
OTHER_ROW = (0, 1, 5)


def add(amount, row=ROW):
    return ("add", row, STOCK, amount)


def spend(amount, row=ROW):
    return ("spend", row, STOCK, amount)


def lend(member, amount, row=ROW):
    return ("lend", row, STOCK, member, amount)


def start(members=3):
    net = Net(members)
    acts = [("table", "t"), ("column", TABLE, "k", "stock"), ("column", TABLE, "n", "integer"),
            ("column", TABLE, "c", "counter"), ("row", TABLE), ("row", TABLE)]
    net.change(0, acts, publics=[("grant", member, ALL_RIGHTS) for member in range(1, members)])
    return net


def cap(member):
    return None if member == 0 else (0, 1, member - 1)


class Base(unittest.TestCase):
    def missing(self, net, row=ROW, column=STOCK):
        """What each act that is judged lacks, by its spot."""
        return {spot: missing for spot, _, missing in flows(net.sheet(), row, column)}

    def shares(self, net, row=ROW, column=STOCK):
        sheet = net.sheet()
        told = shares(sheet, row, column)
        if sheet.holds(column) == "stock" and sheet.table_of(row) == TABLE:
            self.assertEqual(sheet.entry(row, column), sum(told))
        return told


class Judged(Base):
    def test_an_empty_stock(self):
        net = start()
        self.assertEqual(flows(net.sheet(), ROW, STOCK), [])
        self.assertEqual(self.shares(net), [0, 0, 0])
        self.assertEqual(shorts(net.sheet()), [])

    def test_the_triples(self):
        net = start()
        name = net.change(0, [add(5), spend(2), spend(9), lend(1, 3), spend(1)])
        self.assertEqual(flows(net.sheet(), ROW, STOCK), [
            (name + (0,), add(5), 0), (name + (1,), spend(2), 0), (name + (2,), spend(9), 6),
            (name + (3,), lend(1, 3), 0), (name + (4,), spend(1), 1)])
        self.assertEqual(self.shares(net), [0, 3, 0])
        self.assertEqual(shorts(net.sheet()), [(name + (2,), 6), (name + (4,), 1)])

    def test_amounts_below_one(self):
        net = start()
        net.change(0, [add(5), add(0), add(-3), spend(0), spend(-2), lend(1, 0), lend(1, -4)])
        self.assertEqual(self.missing(net), {(0, 2, 0): 0})
        self.assertEqual(self.shares(net), [5, 0, 0])

    def test_lends_to_the_author_and_to_no_member(self):
        net = start()
        net.change(0, [add(5), lend(0, 1), lend(3, 1), lend(5, 1), lend(9, 9)])
        net.change(1, [lend(1, 1)], capability=cap(1))
        self.assertEqual(self.missing(net), {(0, 2, 0): 0})
        self.assertEqual(self.shares(net), [5, 0, 0])
        self.assertEqual(shorts(net.sheet()), [])

    def test_other_acts(self):
        net = start()
        net.change(0, [add(5), ("put", ROW, STOCK, 7), ("insert", ROW, STOCK, None, "a"), ("refer", ROW, STOCK, ROW)])
        self.assertEqual(self.missing(net), {(0, 2, 0): 0})
        self.assertEqual(self.shares(net), [5, 0, 0])

    def test_what_is_no_stock(self):
        net = start()
        net.change(0, [("add", ROW, COUNTER, 5), ("spend", ROW, COUNTER, 9), ("add", ROW, NUMBER, 5), add(5)])
        other = net.change(0, [("table", "u"), ("column", (0, 3, 0), "k", "stock"), ("row", (0, 3, 0)),
                               ("add", ROW, (0, 3, 1), 5), ("add", (0, 3, 2), STOCK, 5)])
        sheet = net.sheet()
        for row, column in ((ROW, COUNTER), (ROW, NUMBER), (ROW, (0, 3, 1)), (other + (2,), STOCK), (ROW, ROW),
                            (TABLE, STOCK), (ROW, TABLE), ((0, 9, 9), STOCK), (ROW, (0, 9, 9))):
            self.assertEqual(flows(sheet, row, column), [], (row, column))
            self.assertEqual(shares(sheet, row, column), [0, 0, 0])
        self.assertEqual(sheet.entry(ROW, COUNTER), 5)
        self.assertEqual(shorts(sheet), [])

    def test_each_cell_for_itself(self):
        net = start()
        net.change(0, [add(5), spend(2, OTHER_ROW), add(1, OTHER_ROW)])
        self.assertEqual(self.shares(net), [5, 0, 0])
        self.assertEqual(self.shares(net, OTHER_ROW), [1, 0, 0])
        self.assertEqual(shorts(net.sheet()), [((0, 2, 1), 2)])

    def test_a_row_that_is_not_live(self):
        net = start()
        net.change(0, [add(5), spend(9)])
        name = net.change(1, [("drop", ROW)], capability=cap(1))
        self.assertEqual(flows(net.sheet(), ROW, STOCK), [])
        self.assertEqual(self.shares(net), [0, 0, 0])
        self.assertEqual(net.sheet().entry(ROW, STOCK), 0)
        self.assertEqual(shorts(net.sheet()), [])
        net.change(0, [("undo", name)])
        self.assertEqual(self.shares(net), [5, 0, 0])

    def test_the_row_and_the_column_must_be_known(self):
        net = start()
        row = net.change(1, [("row", TABLE)], capability=cap(1)) + (0,)
        net.change(2, [add(5, row)], capability=cap(2), heard={1: 0})
        net.change(2, [add(7, row)], capability=cap(2))
        self.assertEqual(self.missing(net, row), {(2, 2, 0): 0})
        column = net.change(1, [("column", TABLE, "x", "stock")], capability=cap(1)) + (0,)
        net.change(2, [("add", ROW, column, 5)], capability=cap(2), heard={1: 1})
        self.assertEqual(flows(net.sheet(), ROW, column), [])

    def test_only_effective_acts(self):
        net = start()
        net.change(1, [add(5)])
        name = net.change(0, [add(6)])
        net.change(0, [("undo", name)])
        self.assertEqual(self.missing(net), {})


class Covered(Base):
    def test_exactly_and_by_one_too_little(self):
        for amount, missing in ((4, 0), (5, 0), (6, 1), (15, 10)):
            for act in (spend(amount), lend(2, amount)):
                net = start()
                net.change(0, [add(5), act])
                self.assertEqual(self.missing(net), {(0, 2, 0): 0, (0, 2, 1): missing})
                left = 5 if missing else 5 - amount
                lent = amount if act[0] == "lend" and not missing else 0
                self.assertEqual(self.shares(net), [left, 0, lent])

    def test_adds_of_others_do_not_cover(self):
        net = start()
        net.change(0, [add(5)])
        net.change(1, [spend(1)], capability=cap(1))
        self.assertEqual(self.missing(net), {(0, 2, 0): 0, (1, 1, 0): 1})
        self.assertEqual(self.shares(net), [5, 0, 0])

    def test_spends_of_others_do_not_cover(self):
        net = start()
        net.change(0, [add(5), spend(1), spend(2)])
        net.change(1, [spend(1)], capability=cap(1))
        net.change(2, [spend(1)], capability=cap(2))
        self.assertEqual(shorts(net.sheet()), [((1, 1, 0), 1), ((2, 1, 0), 1)])

    def test_lends_that_are_known_cover(self):
        net = start()
        net.change(0, [add(5), lend(1, 3)])
        net.change(1, [spend(2)], capability=cap(1))
        net.change(1, [spend(2), lend(2, 1)], capability=cap(1))
        self.assertEqual(self.missing(net), {(0, 2, 0): 0, (0, 2, 1): 0, (1, 1, 0): 0, (1, 2, 0): 1, (1, 2, 1): 0})
        self.assertEqual(self.shares(net), [2, 0, 1])

    def test_lends_that_are_not_known_do_not_cover(self):
        net = start()
        net.change(0, [add(5), lend(1, 3)])
        net.change(1, [spend(2)], capability=cap(1), heard={0: 1})
        net.change(1, [("row", TABLE)], capability=cap(1))
        self.assertEqual(self.missing(net), {(0, 2, 0): 0, (0, 2, 1): 0, (1, 1, 0): 2})
        self.assertEqual(self.shares(net), [2, 3, 0])

    def test_a_lend_without_effect_does_not_cover(self):
        net = start()
        net.change(0, [add(2), lend(1, 3)])
        net.change(1, [spend(1)], capability=cap(1))
        self.assertEqual(self.missing(net), {(0, 2, 0): 0, (0, 2, 1): 1, (1, 1, 0): 1})

    def test_a_spend_without_effect_takes_nothing(self):
        net = start()
        net.change(0, [add(5), spend(6), spend(5)])
        self.assertEqual(self.missing(net), {(0, 2, 0): 0, (0, 2, 1): 1, (0, 2, 2): 0})

    def test_an_add_behind_does_not_cover(self):
        net = start()
        net.change(0, [spend(1), add(5)])
        self.assertEqual(self.missing(net), {(0, 2, 0): 1, (0, 2, 1): 0})

    def test_lends_to_and_fro(self):
        net = start(2)
        net.change(0, [add(5), lend(1, 5)])
        net.change(1, [lend(0, 4)], capability=cap(1))
        net.change(0, [spend(3), lend(1, 1)])
        net.change(1, [spend(2)], capability=cap(1))
        self.assertEqual(set(self.missing(net).values()), {0})
        self.assertEqual(self.shares(net), [0, 0])

    def test_concurrent_spends_of_the_own_shares(self):
        net = start()
        net.change(0, [add(6), lend(1, 2), lend(2, 2)])
        net.change(1, [spend(2)], capability=cap(1), heard={2: 0})
        net.change(2, [spend(2)], capability=cap(2), heard={1: 0})
        net.change(0, [spend(2)], heard={1: 0, 2: 0})
        self.assertEqual(shorts(net.sheet()), [])
        self.assertEqual(self.shares(net), [0, 0, 0])

    def test_an_undo_takes_away_what_covered(self):
        net = start()
        adding = net.change(0, [add(5)])
        net.change(0, [lend(1, 4)])
        net.change(1, [spend(3)], capability=cap(1))
        self.assertEqual(self.shares(net), [1, 1, 0])
        undo = net.change(2, [("undo", adding)], capability=cap(2))
        self.assertEqual(self.missing(net), {(0, 3, 0): 4, (1, 1, 0): 3})
        self.assertEqual(self.shares(net), [0, 0, 0])
        self.assertEqual(shorts(net.sheet()), [((0, 3, 0), 4), ((1, 1, 0), 3)])
        net.change(0, [("undo", undo)])
        self.assertEqual(self.missing(net), {(0, 2, 0): 0, (0, 3, 0): 0, (1, 1, 0): 0})
        self.assertEqual(self.shares(net), [1, 1, 0])

    def test_an_undo_of_a_spend_gives_back(self):
        net = start()
        net.change(0, [add(5)])
        name = net.change(0, [spend(4)])
        net.change(0, [spend(3)])
        self.assertEqual(shorts(net.sheet()), [((0, 4, 0), 2)])
        net.change(0, [("undo", name)])
        self.assertEqual(shorts(net.sheet()), [])
        self.assertEqual(self.shares(net), [2, 0, 0])

    def test_a_verdict_that_turns(self):
        net = start()
        net.change(1, [add(5), lend(2, 4)], capability=cap(1))
        net.change(2, [spend(4)], capability=cap(2))
        self.assertEqual(shorts(net.sheet()), [])
        net.change(0, publics=[("revoke", cap(1))], heard={1: 0, 2: 0})
        self.assertEqual(shorts(net.sheet()), [((2, 1, 0), 4)])
        self.assertEqual(self.shares(net), [0, 0, 0])

    def test_a_member_without_rights_may_be_lent_to(self):
        net = start(2)
        net.change(0, [add(5), lend(1, 2)], publics=[("revoke", cap(1)), ("grant", 1, NO_RIGHTS)])
        self.assertEqual(self.shares(net), [3, 2])

    def test_large_amounts(self):
        net = start()
        most = 10 ** 40 - 1
        net.change(0, [add(most), add(most), spend(most)])
        net.change(1, [add(most), add(most)], capability=cap(1))
        self.assertEqual(self.shares(net), [most, 2 * most, 0])


class KeptShares(Base):
    def kept(self, shares=(((ROW, STOCK, 0), 4), ((ROW, STOCK, 1), 3))):
        net = Net(3)
        net.store.cut = [3, 2, 1]
        net.store.capabilities = [((0, 2, place), None, 1 + place, ALL_RIGHTS) for place in range(2)]
        acts = [(TABLE, ("table", "t")), (STOCK, ("column", TABLE, "k", "stock")), (ROW, ("row", TABLE))]
        net.store.kept[0] = Kept(acts, [], [], shares)
        return net

    def test_they_are_shares(self):
        self.assertEqual(self.shares(self.kept()), [4, 3, 0])
        self.assertEqual(flows(self.kept().sheet(), ROW, STOCK), [])

    def test_they_cover(self):
        net = self.kept()
        net.change(1, [spend(3), spend(1)], capability=(0, 2, 0))
        net.change(2, [spend(1), add(2), spend(2)], capability=(0, 2, 1))
        net.change(0, [lend(2, 4), spend(1)])
        self.assertEqual(shorts(net.sheet()), [((1, 3, 1), 1), ((2, 2, 0), 1), ((0, 4, 1), 1)])
        self.assertEqual(self.shares(net), [0, 0, 4])

    def test_a_row_that_is_dropped(self):
        net = self.kept()
        net.change(0, [("drop", ROW)])
        self.assertEqual(self.shares(net), [0, 0, 0])

    def test_what_is_kept_is_not_known(self):
        net = self.kept()
        net.store.kept[0] = None
        self.assertEqual(shares(net.sheet(), ROW, STOCK), [0, 0, 0])


class Shorts(Base):
    def test_in_the_order_of_the_acts(self):
        net = start()
        net.change(2, [spend(3, OTHER_ROW)], capability=cap(2), heard={1: 0})
        net.change(1, [spend(1), spend(2, OTHER_ROW)], capability=cap(1), heard={2: 0})
        net.change(0, [spend(4), add(9), spend(9), lend(1, 1)])
        self.assertEqual(shorts(net.sheet()), [
            ((1, 1, 0), 1), ((1, 1, 1), 2), ((2, 1, 0), 3), ((0, 2, 0), 4), ((0, 2, 3), 1)])

    def test_cells_with_one_act(self):
        for act in (spend(3), lend(1, 3)):
            net = start()
            net.change(0, [act])
            self.assertEqual(shorts(net.sheet()), [((0, 2, 0), 3)])

    def test_the_results_are_new(self):
        net = start()
        net.change(0, [add(1), spend(4)])
        sheet = net.sheet()
        before = (shorts(sheet), flows(sheet, ROW, STOCK), shares(sheet, ROW, STOCK))
        shorts(sheet).clear()
        flows(sheet, ROW, STOCK).clear()
        shares(sheet, ROW, STOCK).clear()
        self.assertEqual((shorts(sheet), flows(sheet, ROW, STOCK), shares(sheet, ROW, STOCK)), before)


if __name__ == "__main__":
    unittest.main()
