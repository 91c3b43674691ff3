"""Points 13 to 22: capabilities, fit changes, revocations, verdicts, who may read and write."""

import unittest

from kithwhole.rights import (
    allowed_seals, capability_info, counts_in, is_above, is_fit, is_held, may_read, revoked_by, verdicts,
    writing_capabilities,
)
from kithwhole.store import Store
from tests.support import ALL, ALL_RIGHTS, BOTH, NO, NO_RIGHTS, READ, WRITE, Net, make

GIVE = (False, False, True)


def chained(length):
    """Member 0 invites 1, who invites 2, who invites 1, and so on; returns the net and the capabilities."""
    net = Net(3)
    capabilities = [None]
    for index in range(length):
        author = 0 if index == 0 else 1 + (index - 1) % 2
        holder = 1 + index % 2
        name = net.change(author, capability=capabilities[-1], publics=[("grant", holder, ALL_RIGHTS)])
        capabilities.append(name + (0,))
    return net, capabilities


def kept_store():
    """A store with a cut and kept capabilities: one below None, one below it, one without its parent."""
    store = Store(4)
    store.cut = [3, 1, 0, 0]
    store.capabilities = [
        ((0, 1, 0), None, 1, ALL_RIGHTS),
        ((0, 2, 0), (0, 9, 9), 3, (BOTH, NO, NO, NO)),
        ((1, 1, 0), (0, 1, 0), 2, ALL_RIGHTS),
    ]
    return store


class TreeOfCapabilities(unittest.TestCase):
    def test_the_capability_of_the_founder(self):
        self.assertEqual(capability_info(Store(2), None), (None, 0, ALL_RIGHTS))

    def test_every_grant_makes_one(self):
        net = Net(3)
        rights = (READ, WRITE, ALL, NO)
        publics = [("revoke", None), ("grant", 2, rights), ("seal",), ("grant", 1, ALL_RIGHTS)]
        name = net.change(0, publics=publics)
        self.assertEqual(capability_info(net.store, name + (1,)), (None, 2, rights))
        self.assertEqual(capability_info(net.store, name + (3,)), (None, 1, ALL_RIGHTS))
        other = net.change(1, capability=name + (3,), publics=[("grant", 5, NO_RIGHTS)])
        self.assertEqual(capability_info(net.store, other + (0,)), (name + (3,), 5, NO_RIGHTS))

    def test_what_is_not_there(self):
        net = Net(2)
        net.change(0, publics=[("seal",), ("grant", 1, ALL_RIGHTS)])
        for capability in ((0, 1, 0), (0, 1, 2), (0, 1, -1), (0, 2, 0), (0, 0, 1), (1, 1, 0), (7, 1, 1), (-2, 1, 1)):
            self.assertIsNone(capability_info(net.store, capability), capability)
        self.assertIsNotNone(capability_info(net.store, (0, 1, 1)))

    def test_a_grant_is_there_whether_or_not_its_change_is_fit(self):
        net = Net(2)
        net.change(1, publics=[("grant", 1, ALL_RIGHTS)])
        self.assertEqual(capability_info(net.store, (1, 1, 0)), (None, 1, ALL_RIGHTS))

    def test_a_chain_that_reaches_nothing(self):
        net = Net(3)
        net.change(1, capability=(0, 1, 0), publics=[("grant", 2, ALL_RIGHTS)])
        net.change(2, capability=(1, 1, 0), publics=[("grant", 1, ALL_RIGHTS)])
        self.assertIsNone(capability_info(net.store, (1, 1, 0)))
        self.assertIsNone(capability_info(net.store, (2, 1, 0)))

    def test_a_chain_in_a_circle_reaches_nothing(self):
        net = Net(3)
        net.change(1, capability=(1, 1, 0), publics=[("grant", 1, ALL_RIGHTS)])
        self.assertIsNone(capability_info(net.store, (1, 1, 0)))
        self.assertIs(is_above(net.store, (1, 1, 0), (1, 1, 0)), False)
        net.change(1, capability=(2, 1, 0), publics=[("grant", 1, ALL_RIGHTS)])
        net.change(2, capability=(1, 2, 0), publics=[("grant", 1, ALL_RIGHTS)])
        self.assertIsNone(capability_info(net.store, (2, 1, 0)))
        self.assertEqual(verdicts(net.store), {(1, 1): False, (1, 2): False, (2, 1): False})

    def test_kept_capabilities_are_there(self):
        store = kept_store()
        self.assertEqual(capability_info(store, (0, 1, 0)), (None, 1, ALL_RIGHTS))
        self.assertEqual(capability_info(store, (0, 2, 0)), ((0, 9, 9), 3, (BOTH, NO, NO, NO)))
        self.assertIsNone(capability_info(store, (0, 9, 9)))
        self.assertIsNone(capability_info(store, (0, 3, 0)))

    def test_a_chain_that_reaches_a_kept_capability(self):
        store = kept_store()
        store.add(make(3, 1, [3, 1, 0, 0], (0, 2, 0), [("grant", 2, NO_RIGHTS)]))
        self.assertEqual(capability_info(store, (3, 1, 0)), ((0, 2, 0), 2, NO_RIGHTS))

    def test_above(self):
        net, capabilities = chained(4)
        for upper in range(5):
            for lower in range(5):
                told = is_above(net.store, capabilities[upper], capabilities[lower])
                self.assertIs(told, upper <= lower)

    def test_above_needs_both(self):
        net, capabilities = chained(1)
        self.assertIs(is_above(net.store, None, (0, 5, 0)), False)
        self.assertIs(is_above(net.store, (0, 5, 0), capabilities[1]), False)
        self.assertIs(is_above(net.store, (0, 5, 0), (0, 5, 0)), False)

    def test_beside_is_not_above(self):
        net = Net(3)
        one, two = net.invite(1, 2)
        self.assertIs(is_above(net.store, one, two), False)
        self.assertIs(is_above(net.store, two, one), False)

    def test_above_a_kept_capability(self):
        store = kept_store()
        self.assertIs(is_above(store, None, (1, 1, 0)), True)
        self.assertIs(is_above(store, (0, 1, 0), (1, 1, 0)), True)
        # Its parent is not there, so the path ends with the capability itself.
        self.assertIs(is_above(store, (0, 2, 0), (0, 2, 0)), True)
        self.assertIs(is_above(store, None, (0, 2, 0)), False)
        store.add(make(3, 1, [3, 1, 0, 0], (0, 2, 0), [("grant", 2, NO_RIGHTS)]))
        self.assertIs(is_above(store, (0, 2, 0), (3, 1, 0)), True)
        self.assertIs(is_above(store, None, (3, 1, 0)), False)


class FitChanges(unittest.TestCase):
    def fit(self, net, change):
        net.store.add(change)
        return is_fit(net.store, change)

    def test_a_fit_change(self):
        net = Net(2)
        capability, = net.invite(1)
        self.assertIs(self.fit(net, make(1, 1, [1, 0], capability)), True)
        self.assertIs(self.fit(net, make(0, 2, [1, 0])), True)

    def test_what_is_cut_away_must_be_heard(self):
        for heard, told in (([3, 1, 0, 0], True), ([2, 1, 0, 0], False), ([3, 0, 0, 0], False)):
            store = kept_store()
            change = make(2, 1, heard, (1, 1, 0))
            store.add(change)
            self.assertIs(is_fit(store, change), told)

    def test_the_capability_must_be_there(self):
        net = Net(2)
        net.invite(1)
        self.assertIs(self.fit(net, make(1, 1, [1, 0], (0, 1, 1))), False)
        self.assertIs(self.fit(net, make(0, 2, [1, 0], (0, 2, 0))), False)

    def test_the_author_must_be_the_holder(self):
        net = Net(3)
        capability, = net.invite(1)
        self.assertIs(self.fit(net, make(2, 1, [1, 0, 0], capability)), False)
        self.assertIs(self.fit(net, make(1, 1, [1, 0, 0])), False)
        self.assertIs(self.fit(net, make(0, 2, [1, 0, 0], capability)), False)

    def test_the_founder_may_hold_a_capability(self):
        net = Net(2)
        capability, = net.invite(0)
        self.assertIs(self.fit(net, make(0, 2, [1, 0], capability)), True)

    def test_the_grant_must_be_heard(self):
        net = Net(2)
        capability, = net.invite(1)
        self.assertIs(self.fit(net, make(1, 1, [0, 0], capability)), False)
        net = Net(2)
        own = make(0, 1, [0, 0], None, [("grant", 0, ALL_RIGHTS)])
        self.assertIs(self.fit(net, own), True)

    def test_a_kept_capability_needs_no_grant(self):
        store = kept_store()
        # No change that granted it is in this past, only what is cut away.
        store.capabilities.append(((3, 5, 0), None, 2, ALL_RIGHTS))
        change = make(2, 1, [3, 1, 0, 0], (3, 5, 0))
        store.add(change)
        self.assertIs(is_fit(store, change), True)

    def test_only_what_may_be_passed_on_is_granted(self):
        rights = [(a, b, c) for a in (False, True) for b in (False, True) for c in (False, True)]
        for own in rights:
            for given in rights:
                told = own[2] or given == NO
                told = told and (own[0] or not given[0]) and (own[1] or not given[1])
                for space in range(4):
                    net = Net(3)
                    held = [ALL] * 4
                    held[space] = own
                    passed = [ALL] * 4
                    passed[space] = given
                    capability, = net.invite(1, rights=tuple(held))
                    change = make(1, 1, [1, 0, 0], capability, [("grant", 2, tuple(passed))])
                    self.assertIs(self.fit(net, change), told, (own, given))

    def test_each_grant_is_asked(self):
        net = Net(3)
        capability, = net.invite(1, rights=(ALL, NO, NO, NO))
        good, bad = ("grant", 2, (BOTH, NO, NO, NO)), ("grant", 2, (NO, GIVE, NO, NO))
        self.assertIs(self.fit(net, make(1, 1, [1, 0, 0], capability, [good, good])), True)
        self.assertIs(self.fit(net, make(1, 2, [1, 1, 0], capability, [good, bad])), False)

    def test_only_the_capability_of_the_founder_seals(self):
        net = Net(2)
        capabilities = net.invite(0, 1)
        self.assertIs(self.fit(net, make(1, 1, [1, 0], capabilities[1], [("seal",)])), False)
        self.assertIs(self.fit(net, make(0, 2, [1, 0], capabilities[0], [("seal",)])), False)
        self.assertIs(self.fit(net, make(0, 3, [2, 0], None, [("seal",)])), True)

    def test_revocations_do_not_matter(self):
        net = Net(2)
        capability, = net.invite(1)
        self.assertIs(self.fit(net, make(1, 1, [1, 0], capability, [("revoke", None), ("revoke", (5, 5, 5))])), True)


class Revocations(unittest.TestCase):
    def test_an_effective_one(self):
        net = Net(3)
        one, two = net.invite(1, 2)
        name = net.change(0, publics=[("revoke", two), ("revoke", one), ("revoke", two)])
        self.assertEqual(revoked_by(net.store, net.store.find(name)), [two, one])

    def test_by_a_member_below(self):
        net, capabilities = chained(3)
        name = net.change(1, capability=capabilities[1], publics=[("revoke", capabilities[3])])
        self.assertEqual(revoked_by(net.store, net.store.find(name)), [capabilities[3]])

    def nothing(self, net, author, capability, named, heard=None):
        name = net.change(author, capability=capability, publics=[("revoke", named)], heard=heard)
        self.assertEqual(revoked_by(net.store, net.store.find(name)), [])

    def test_what_is_not_there(self):
        net = Net(2)
        net.invite(1)
        self.nothing(net, 0, None, (0, 1, 1))
        self.nothing(net, 0, None, (1, 1, 0))
        self.nothing(net, 0, None, (0, 9, 0))

    def test_none_and_the_own_one(self):
        net = Net(2)
        capability, = net.invite(1)
        self.nothing(net, 0, None, None)
        self.nothing(net, 1, capability, None)
        self.nothing(net, 1, capability, capability)

    def test_above_and_beside(self):
        net, capabilities = chained(3)
        self.nothing(net, 2, capabilities[2], capabilities[1])
        beside, = net.invite(2)
        self.nothing(net, 2, beside, capabilities[1])
        self.nothing(net, 2, beside, capabilities[3])

    def test_what_was_not_heard_of(self):
        net = Net(3)
        first, = net.invite(1)
        granted = net.change(1, capability=first, publics=[("grant", 2, ALL_RIGHTS)])
        self.nothing(net, 0, None, granted + (0,), heard={1: 0})
        publics = [("grant", 2, ALL_RIGHTS), ("revoke", (0, 3, 0))]
        name = net.change(0, publics=publics)
        self.assertEqual(name, (0, 3))
        self.assertEqual(revoked_by(net.store, net.store.find(name)), [])

    def test_the_capability_of_the_change_must_be_there(self):
        net = Net(2)
        capability, = net.invite(1)
        self.nothing(net, 0, (7, 7, 7), capability)

    def test_kept_ones_are_revoked(self):
        store = kept_store()
        change = make(0, 4, [3, 1, 0, 0], None, [("revoke", (1, 1, 0)), ("revoke", (0, 2, 0))])
        store.add(change)
        # Above the second one lies nothing but itself.
        self.assertEqual(revoked_by(store, change), [(1, 1, 0)])

    def test_kept_ones_need_no_grant_in_the_past(self):
        store = kept_store()
        change = make(0, 4, [3, 0, 0, 0], None, [("revoke", (1, 1, 0))])
        store.add(change)
        self.assertEqual(revoked_by(store, change), [(1, 1, 0)])


class Verdicts(unittest.TestCase):
    def test_fit_changes_are_allowed(self):
        net, _ = chained(4)
        self.assertEqual(set(net.allowed().values()), {True})
        self.assertEqual(len(net.allowed()), 4)
        self.assertEqual(verdicts(Store(2)), {})

    def test_others_are_not(self):
        net = Net(2)
        net.change(1)
        self.assertEqual(net.allowed(), {(1, 1): False})
        self.assertIs(net.allowed()[(1, 1)], False)

    def test_the_grant_must_be_allowed(self):
        net = Net(4)
        first, = net.invite(1, rights=(ALL, NO, NO, NO))
        # This grant passes on too much, so its change is not fit.
        name = net.change(1, capability=first, publics=[("grant", 2, ALL_RIGHTS)])
        deeper = net.change(2, capability=name + (0,), publics=[("grant", 3, NO_RIGHTS)])
        last = net.change(3, capability=deeper + (0,))
        self.assertEqual(net.allowed(), {(0, 1): True, name: False, deeper: False, last: False})

    def test_unrelated_to_a_seal(self):
        net = Net(3)
        one, two = net.invite(1, 2)
        before = net.change(1, capability=one)
        unheard = net.change(2, capability=two)
        seal = net.seal(heard={2: 0})
        after = net.change(1, capability=one)
        self.assertEqual(net.allowed(), {(0, 1): True, before: True, unheard: False, seal: True, after: True})
        again = net.change(2, capability=two)
        self.assertIs(net.allowed()[again], True)

    def test_each_seal_is_asked(self):
        net = Net(2)
        capability, = net.invite(1)
        net.seal()
        between = net.change(1, capability=capability, heard={0: 2})
        self.assertIs(net.allowed()[between], True)
        second = net.seal(heard={1: 0})
        self.assertEqual(net.allowed(), {(0, 1): True, (0, 2): True, between: False, second: True})

    def test_a_seal_that_is_not_allowed_does_nothing(self):
        net = Net(3)
        one, two = net.invite(1, 2)
        net.change(1, capability=one, publics=[("seal",)])
        other = net.change(2, capability=two, heard={1: 0})
        self.assertEqual(net.allowed(), {(0, 1): True, (1, 1): False, other: True})

    def test_a_revocation(self):
        net = Net(3)
        one, two = net.invite(1, 2)
        heard_of = net.change(1, capability=one)
        unheard = net.change(1, capability=one)
        revoker = net.change(0, publics=[("revoke", one)], heard={1: 1})
        later = net.change(1, capability=one)
        beside = net.change(2, capability=two, heard={0: 1})
        self.assertEqual(net.allowed(), {
            (0, 1): True, heard_of: True, unheard: False, revoker: True, later: False, beside: True})

    def test_a_revocation_reaches_all_below(self):
        net, capabilities = chained(3)
        old = net.change(2, capability=capabilities[3 - 1])
        net.change(0, publics=[("revoke", capabilities[1])], heard={2: net.store.count(2) - 1})
        told = net.allowed()
        self.assertIs(told[old], False)
        self.assertEqual([told[name] for name in ((0, 1), (1, 1), (2, 1), (0, 2))], [True] * 4)
        later = net.change(1, capability=capabilities[3])
        self.assertIs(net.allowed()[later], False)

    def test_a_revocation_that_does_nothing(self):
        net = Net(3)
        one, two = net.invite(1, 2)
        change = net.change(1, capability=one)
        net.change(2, capability=two, publics=[("revoke", one), ("revoke", None)], heard={1: 0})
        self.assertIs(net.allowed()[change], True)

    def test_a_revocation_by_a_change_that_is_not_allowed(self):
        net, capabilities = chained(3)
        # Member 1 revokes what member 2 holds, but is revoked by the founder who did not hear of that.
        net.change(1, capability=capabilities[1], publics=[("revoke", capabilities[2])], heard={2: 1})
        used = net.change(2, capability=capabilities[2], heard={1: 1})
        self.assertIs(net.allowed()[used], False)
        net.change(0, publics=[("revoke", capabilities[1])], heard={1: 1})
        told = net.allowed()
        self.assertIs(told[(1, 2)], False)
        self.assertIs(told[used], True)

    def test_mutual_revocations_of_one_level_do_nothing(self):
        net = Net(3)
        one, two = net.invite(1, 2)
        first = net.change(1, capability=one, publics=[("revoke", two)], heard={2: 0})
        second = net.change(2, capability=two, publics=[("revoke", one)], heard={1: 0})
        self.assertEqual(net.allowed(), {(0, 1): True, first: True, second: True})

    def test_kept_capabilities(self):
        store = kept_store()
        for change in (
            make(1, 2, [3, 1, 0, 0], (0, 1, 0)),
            make(2, 1, [3, 1, 0, 0], (1, 1, 0)),
            make(3, 1, [3, 1, 0, 0], (0, 2, 0)),
            make(2, 2, [3, 1, 1, 0], (0, 1, 0)),
            make(2, 3, [2, 1, 2, 0], (1, 1, 0)),
        ):
            store.add(change)
        self.assertEqual(verdicts(store), {
            (1, 2): True, (2, 1): True, (3, 1): True, (2, 2): False, (2, 3): False})
        store.add(make(0, 4, [3, 1, 0, 0], None, [("revoke", (0, 1, 0))]))
        told = verdicts(store)
        self.assertEqual([told[name] for name in ((1, 2), (2, 1), (3, 1), (0, 4))], [False, False, True, True])

    def test_the_store_stays_as_it_is(self):
        net, _ = chained(3)
        before = net.store.data()
        verdicts(net.store)
        self.assertEqual(net.store.data(), before)


class HeldCapabilities(unittest.TestCase):
    def held(self, net, capability):
        return is_held(net.store, net.allowed(), capability)

    def test_held(self):
        net, capabilities = chained(3)
        for capability in capabilities:
            self.assertIs(self.held(net, capability), True)

    def test_what_is_not_there_is_not_held(self):
        net, _ = chained(1)
        self.assertIs(self.held(net, (0, 1, 1)), False)
        self.assertIs(self.held(net, (2, 2, 2)), False)

    def test_the_grant_must_be_allowed(self):
        net = Net(2)
        name = net.change(1, publics=[("grant", 1, NO_RIGHTS)])
        self.assertIsNotNone(capability_info(net.store, name + (0,)))
        self.assertIs(self.held(net, name + (0,)), False)

    def test_revoked_is_not_held(self):
        net, capabilities = chained(3)
        net.change(0, publics=[("revoke", capabilities[2])])
        self.assertEqual([self.held(net, each) for each in capabilities], [True, True, False, False])
        # The changes themselves are still allowed: the founder had heard of them.
        self.assertEqual(set(net.allowed().values()), {True})

    def test_a_revocation_by_a_change_that_is_not_allowed(self):
        net, capabilities = chained(2)
        net.change(2, capability=capabilities[1], publics=[("revoke", capabilities[2])])
        self.assertEqual([self.held(net, each) for each in capabilities], [True, True, True])

    def test_kept_ones(self):
        store = kept_store()
        store.add(make(1, 2, [3, 1, 0, 0], (0, 1, 0), [("revoke", (1, 1, 0))]))
        allowed = verdicts(store)
        told = [is_held(store, allowed, each) for each in (None, (0, 1, 0), (0, 2, 0), (1, 1, 0))]
        self.assertEqual(told, [True, True, True, False])


class Reading(unittest.TestCase):
    def reads(self, store):
        allowed = verdicts(store)
        return [[may_read(store, allowed, member, space) for space in range(4)] for member in range(store.members)]

    def test_the_founder_and_the_holders(self):
        net = Net(3)
        net.invite(1, rights=(READ, WRITE, ALL, GIVE))
        self.assertEqual(self.reads(net.store), [
            [True] * 4, [True, False, True, False], [False] * 4])

    def test_rights_of_several_capabilities(self):
        net = Net(2)
        net.invite(1, rights=(READ, NO, NO, NO))
        second, = net.invite(1, rights=(NO, READ, NO, NO))
        self.assertEqual(self.reads(net.store)[1], [True, True, False, False])
        net.change(0, publics=[("revoke", second)])
        self.assertEqual(self.reads(net.store)[1], [True, False, False, False])

    def test_kept_ones(self):
        self.assertEqual(self.reads(kept_store()), [
            [True] * 4, [True] * 4, [True] * 4, [True, False, False, False]])


class Counting(unittest.TestCase):
    def test_allowed_and_with_the_right(self):
        net = Net(3)
        granting = net.change(0, publics=[("grant", 1, (WRITE, READ, ALL, GIVE)), ("grant", 2, ALL_RIGHTS)])
        capability, other = granting + (0,), granting + (1,)
        change = net.change(1, capability=capability)
        wrong = net.change(2, capability=capability)
        revoked = net.change(2, capability=other)
        net.change(0, publics=[("revoke", other)], heard={2: 0})
        allowed = net.allowed()

        def counts(name):
            return [counts_in(net.store, allowed, net.store.find(name), space) for space in range(4)]

        self.assertEqual(counts(granting), [True] * 4)
        self.assertEqual(counts(change), [True, False, True, False])
        self.assertEqual(counts(wrong), [False] * 4)
        self.assertEqual(counts(revoked), [False] * 4)

    def test_with_a_kept_capability(self):
        store = kept_store()
        change = make(3, 1, [3, 1, 0, 0], (0, 2, 0))
        store.add(change)
        allowed = verdicts(store)
        told = [counts_in(store, allowed, change, space) for space in range(4)]
        self.assertEqual(told, [True, False, False, False])

    def test_a_change_counts_after_its_capability_is_revoked(self):
        net = Net(2)
        capability, = net.invite(1)
        name = net.change(1, capability=capability)
        net.change(0, publics=[("revoke", capability)])
        self.assertIs(counts_in(net.store, net.allowed(), net.store.find(name), 0), True)


class WritingCapabilities(unittest.TestCase):
    def test_the_founder_has_one(self):
        net = Net(2)
        net.invite(0)
        self.assertEqual(writing_capabilities(net.store, net.allowed(), 0, 3), [None])

    def test_held_ones_in_ascending_order(self):
        net = Net(3)
        inviter, = net.invite(2)
        third = net.change(2, capability=inviter, publics=[("grant", 1, (BOTH, NO, NO, NO))])
        publics = [("grant", 1, (READ, NO, ALL, NO)), ("grant", 1, (WRITE, NO, NO, NO)), ("grant", 1, ALL_RIGHTS)]
        name = net.change(0, publics=publics)
        allowed = net.allowed()
        told = [writing_capabilities(net.store, allowed, 1, space) for space in range(4)]
        first, second, last = [name + (place,) for place in range(3)]
        self.assertEqual(told, [[second, last, third + (0,)], [last], [first, last], [last]])
        net.change(0, publics=[("revoke", last)])
        self.assertEqual(writing_capabilities(net.store, net.allowed(), 1, 1), [])

    def test_kept_ones_among_them(self):
        store = kept_store()
        store.add(make(0, 4, [3, 1, 0, 0], None, [("grant", 3, ALL_RIGHTS)]))
        allowed = verdicts(store)
        self.assertEqual(writing_capabilities(store, allowed, 3, 0), [(0, 2, 0), (0, 4, 0)])
        self.assertEqual(writing_capabilities(store, allowed, 3, 1), [(0, 4, 0)])
        self.assertEqual(writing_capabilities(store, allowed, 2, 1), [(1, 1, 0)])


class Seals(unittest.TestCase):
    def test_allowed_seals_in_order(self):
        net = Net(2)
        capability, = net.invite(1)
        first = net.seal()
        net.change(1, capability=capability, publics=[("seal",)])
        second = net.change(0, publics=[("grant", 1, NO_RIGHTS), ("seal",)])
        net.change(0)
        told = allowed_seals(net.store, net.allowed())
        self.assertEqual([change.name() for change in told], [first, second])
        self.assertEqual(allowed_seals(Store(1), {}), [])


if __name__ == "__main__":
    unittest.main()
