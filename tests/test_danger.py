"""Point 116: the changes that the others can make against a member that spends more than its share."""

import random
import unittest

from kithwhole.danger import danger
from kithwhole.rights import is_fit, verdicts, writing_capabilities
from kithwhole.sheets import Sheet
from kithwhole.stocks import flows, shares
from kithwhole.store import SPACES, is_whole
from tests.random_stores import Maker
from tests.support import ALL_RIGHTS, NO, NO_RIGHTS, READ, Net

T, K, ROW = (0, 1, 0), (0, 1, 1), (0, 1, 2)
N = (0, 1, 3)
BOTH = (True, True, False)


def start(members=4, holders=(1, 2, 3), space=0):
    """A stock of which members that hold a right to write are lent 10 times their number."""
    net = Net(members)
    acts = [("table", "t"), ("column", T, "k", "stock"), ("row", T), ("column", T, "n", "integer"), ("add", ROW, K, 100)]
    acts += [("lend", ROW, K, member, 10 * member) for member in range(1, members)]
    net.change(0, parts={space: acts}, publics=[("grant", member, ALL_RIGHTS) for member in holders])
    return net


class Base(unittest.TestCase):
    def changes(self, net, member, amount, space=0, row=ROW, column=K):
        before = net.store.data()
        told = danger(net.store, net.allowed(), space, row, column, member, amount)
        self.assertEqual(net.store.data(), before)
        return told

    def headers(self, changes):
        return [(change.name(), change.capability, change.publics) for change in changes]

    def spends(self, changes, space=0):
        return [change.parts[space] for change in changes]


class Danger(Base):
    def test_a_share_that_is_enough(self):
        net = start()
        for member, share in enumerate([40, 10, 20, 30]):
            self.assertIsNone(self.changes(net, member, share))
            self.assertIsNone(self.changes(net, member, 1))
            self.assertIsNotNone(self.changes(net, member, share + 1))

    def test_the_changes_of_the_others(self):
        told = self.changes(start(), 1, 11)
        self.assertEqual(self.headers(told), [((0, 2), None, ()), ((2, 1), (0, 1, 1), ()), ((3, 1), (0, 1, 2), ())])
        self.assertEqual([change.heard for change in told], [(1, 0, 0, 0), (2, 0, 0, 0), (2, 0, 1, 0)])
        self.assertEqual(self.spends(told), [(("spend", ROW, K, 40),), (("spend", ROW, K, 20),), (("spend", ROW, K, 30),)])
        for change in told:
            self.assertEqual(change.parts[1:], ((), (), ()))

    def test_the_founder_asks(self):
        told = self.changes(start(), 0, 41)
        self.assertEqual([change.name() for change in told], [(1, 1), (2, 1), (3, 1)])

    def test_members_without_a_share(self):
        net = start()
        net.change(2, [("spend", ROW, K, 20)], capability=(0, 1, 1))
        told = self.changes(net, 1, 11)
        self.assertEqual([change.name() for change in told], [(0, 2), (3, 1)])
        net.change(0, [("spend", ROW, K, 40)])
        self.assertEqual([change.name() for change in self.changes(net, 3, 31)], [(1, 1)])

    def test_nobody_has_a_share(self):
        net = start(members=1, holders=())
        net.change(0, [("spend", ROW, K, 100)])
        self.assertIsNone(self.changes(net, 0, 0))
        self.assertEqual(self.changes(net, 0, 1), [])

    def test_members_without_a_capability_are_granted_one(self):
        net = start(holders=(2,))
        told = self.changes(net, 2, 21)
        rights = (BOTH, NO, NO, NO)
        self.assertEqual(self.headers(told), [
            ((0, 2), None, ()), ((0, 3), None, (("grant", 1, rights),)), ((1, 1), (0, 3, 0), ()),
            ((0, 4), None, (("grant", 3, rights),)), ((3, 1), (0, 4, 0), ())])
        self.assertEqual([change.heard for change in told], [
            (1, 0, 0, 0), (2, 0, 0, 0), (3, 0, 0, 0), (3, 1, 0, 0), (4, 1, 0, 0)])
        self.assertEqual(self.spends(told), [
            (("spend", ROW, K, 40),), (), (("spend", ROW, K, 10),), (), (("spend", ROW, K, 30),)])

    def test_the_founder_grants_nothing_against_itself(self):
        told = self.changes(start(holders=(2,)), 0, 41)
        self.assertEqual(self.headers(told), [((2, 1), (0, 1, 0), ())])
        self.assertEqual(self.changes(start(holders=()), 0, 41), [])

    def test_the_rights_of_the_grant(self):
        for space in range(SPACES):
            net = start(holders=(), space=space)
            told = self.changes(net, 3, 31, space)
            rights = tuple([BOTH if each == space else NO for each in range(SPACES)])
            self.assertEqual(told[1].publics, (("grant", 1, rights),))
            self.assertEqual(told[2].parts, tuple([(("spend", ROW, K, 10),) if each == space else ()
                                                   for each in range(SPACES)]))

    def test_capabilities_that_may_not_write_the_space(self):
        net = start(holders=(2,))
        net.invite(1, rights=(READ, (True, True, True), NO, NO))
        net.invite(1, rights=NO_RIGHTS)
        told = self.changes(net, 2, 21)
        self.assertEqual(told[1].publics, (("grant", 1, (BOTH, NO, NO, NO)),))
        self.assertEqual(told[2].capability, (0, 5, 0))

    def test_the_first_of_several_capabilities(self):
        net = start(holders=(2,))
        net.invite(1, rights=(READ, READ, READ, READ))
        first = net.invite(1, 1)
        net.invite(1)
        told = self.changes(net, 2, 21)
        self.assertEqual(told[1].capability, first[0])
        net.change(0, publics=[("revoke", first[0])])
        self.assertEqual(self.changes(net, 2, 21)[1].capability, first[1])

    def test_capabilities_that_are_revoked(self):
        net = start()
        net.change(0, publics=[("revoke", (0, 1, 1))])
        told = self.changes(net, 1, 11)
        self.assertEqual(told[1].publics, (("grant", 2, (BOTH, NO, NO, NO)),))
        self.assertEqual([change.name() for change in self.changes(net, 0, 41)], [(1, 1), (3, 1)])

    def test_everything_is_heard(self):
        net = start()
        net.change(3, [], capability=(0, 1, 2), heard={0: 1})
        net.change(1, [], capability=(0, 1, 0), heard={3: 0})
        told = self.changes(net, 2, 21)
        self.assertEqual([change.heard for change in told], [(1, 1, 0, 1), (2, 1, 0, 1), (2, 2, 0, 1)])
        self.assertEqual([change.name() for change in told], [(0, 2), (1, 2), (3, 2)])

    def test_what_is_no_stock(self):
        net = start()
        self.assertEqual(self.changes(net, 1, 1, column=N), [])
        self.assertEqual(self.changes(net, 1, 1, row=(0, 9, 9)), [])
        self.assertIsNone(self.changes(net, 1, 0, column=N))
        net.change(0, [("drop", ROW)])
        self.assertEqual(self.changes(net, 1, 5), [])

    def test_another_space(self):
        net = start()
        self.assertEqual(self.changes(net, 1, 1, space=1), [])


class WhatItTells(Base):
    """The changes can be made, their spends are covered, and behind them the cell holds too little."""

    def behind(self, store, changes):
        later = store.copy()
        for change in changes:
            self.assertTrue(is_fit(later, change))
            later.add(change)
        self.assertTrue(is_whole(later))
        allowed = verdicts(later)
        self.assertTrue(all(allowed[change.name()] for change in changes))
        return later, allowed

    def check(self, store, space, row, column):
        allowed = verdicts(store)
        held = shares(Sheet(store, allowed, space), row, column)
        for member in range(store.members):
            amount = held[member] + 1
            changes = danger(store, allowed, space, row, column, member, amount)
            later, verdict = self.behind(store, changes)
            sheet = Sheet(later, verdict, space)
            judged = {spot: missing for spot, _, missing in flows(sheet, row, column)}
            for change in changes:
                for place in range(len(change.parts[space])):
                    self.assertEqual(judged[change.name() + (place,)], 0)
            left = held[member]
            if member == 0:
                left += sum(held[other] for other in range(1, store.members)
                            if not writing_capabilities(store, allowed, other, space))
            self.assertEqual(sum(shares(sheet, row, column)), left)

    def test_random_stores(self):
        cells = 0
        for seed in range(60):
            store = Maker(seed, members=1 + seed % 4, focus="stock")
            store.start()
            store = store.run(40, 0.1)
            sheet = Sheet(store, verdicts(store), 0)
            for table in sheet.tables:
                for row in sheet.live[table]:
                    for column in sheet.columns[table]:
                        if sheet.holds(column) == "stock" and sheet.entry(row, column) > 0:
                            with self.subTest((seed, row, column)):
                                self.check(store, 0, row, column)
                                cells += 1
        self.assertGreater(cells, 30)

    def test_random_amounts_of_a_member(self):
        net = start(holders=(1, 3))
        for amount in random.Random(1).sample(range(1, 200), 20):
            told = self.changes(net, 1, amount)
            self.assertEqual(told is None, amount <= 10)


if __name__ == "__main__":
    unittest.main()
