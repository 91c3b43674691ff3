"""Points 87 to 89: what is shown of a store, stores that agree, and stores that are joined."""

import random
import unittest

from kithwhole.changes import Change
from kithwhole.rights import may_read, verdicts
from kithwhole.spaces import agree, joined, shown_to
from kithwhole.store import SPACES, Kept, Store, is_whole
from tests.random_stores import Maker
from tests.support import BOTH, NO, NO_RIGHTS, READ, UNKNOWN, WRITE, Net, make

TABLE = ("table", "t")
KEPT = Kept([((0, 1, 0), TABLE)], [(((0, 1, 0), (0, 1, 1)), 3)], [(((0, 1, 0), (0, 1, 2)), [((0, 1, 3, 0), "a")])],
            [(((0, 1, 0), (0, 1, 4), 1), 2)])


def cut_store(kept=None, **others):
    """One change is cut away, one stands behind it."""
    store = Store(2)
    store.cut = [1, 0]
    store.capabilities = [((0, 1, 0), None, 1, (BOTH, NO, READ, WRITE))]
    if kept is not None:
        store.kept = list(kept)
    store.add(make(0, 2, [1, 0], None, others.get("publics", ()), others.get("parts", {0: [TABLE]})))
    return store


class Shown(unittest.TestCase):
    def setUp(self):
        self.net = Net(3)
        rights = (READ, WRITE, BOTH, NO)
        self.net.change(0, parts={space: [TABLE] for space in range(SPACES)}, publics=[("grant", 1, rights)])
        self.net.change(1, parts={2: [("row", (0, 1, 0))]}, capability=(0, 1, 0))
        self.store = self.net.store

    def known(self, store):
        return [[part is not None for part in change.parts] for changes in store.changes for change in changes]

    def test_a_member_is_shown_the_spaces_that_it_may_read(self):
        before = self.store.data()
        shown = shown_to(self.store, 1)
        self.assertEqual(self.known(shown), [[True, False, True, False]] * 2)
        self.assertEqual([kept is not None for kept in shown.kept], [True, False, True, False])
        self.assertEqual(shown.changes[1][0].parts[2], (("row", (0, 1, 0)),))
        self.assertEqual(self.store.data(), before)

    def test_the_founder_is_shown_all(self):
        self.assertEqual(shown_to(self.store, 0).data(), self.store.data())

    def test_a_member_without_a_capability_is_shown_the_headers(self):
        shown = shown_to(self.store, 2)
        self.assertEqual(shown.kept, [None] * SPACES)
        self.assertEqual(self.known(shown), [[False] * SPACES] * 2)
        for changes, others in zip(shown.changes, self.store.changes):
            self.assertEqual([change.header() for change in changes], [change.header() for change in others])

    def test_a_revoked_capability_shows_nothing(self):
        self.net.change(0, publics=[("revoke", (0, 1, 0))])
        self.assertEqual(shown_to(self.store, 1).kept, [None] * SPACES)

    def test_parts_that_are_not_known_stay_so(self):
        self.store.changes[0][0] = self.store.changes[0][0].with_parts([None, (), (), ()])
        self.store.kept[2] = None
        shown = shown_to(self.store, 1)
        self.assertEqual(self.known(shown), [[False, False, True, False], [True, False, True, False]])
        self.assertEqual([kept is not None for kept in shown.kept], [True, False, False, False])

    def test_the_cut_and_the_kept_capabilities_are_shown(self):
        store = cut_store([KEPT] * SPACES)
        shown = shown_to(store, 1)
        self.assertEqual((shown.cut, shown.capabilities), (store.cut, store.capabilities))
        self.assertEqual([kept is not None for kept in shown.kept], [True, False, True, False])
        self.assertEqual(shown.kept[0].data(), KEPT.data())

    def test_nothing_is_shared(self):
        store = cut_store([KEPT] * SPACES)
        before = store.data()
        shown = shown_to(store, 0)
        shown.cut[0] = 9
        shown.capabilities.clear()
        shown.kept[0].acts.clear()
        shown.kept[0].texts[0][1].clear()
        shown.changes[0].clear()
        self.assertEqual(store.data(), before)


class Agreement(unittest.TestCase):
    def check(self, first, second, expected):
        before = (first.data(), second.data())
        self.assertIs(agree(first, second), expected)
        self.assertIs(agree(second, first), expected)
        self.assertEqual((first.data(), second.data()), before)

    def test_equal_stores_agree(self):
        self.check(cut_store(), cut_store(), True)
        self.check(Store(3), Store(3), True)

    def test_another_number_of_members(self):
        self.check(Store(2), Store(3), False)

    def test_another_cut(self):
        other = cut_store()
        other.cut = [1, 1]
        self.check(cut_store(), other, False)
        # With as many changes, of which one has not cut one away.
        whole, cut = Store(1), Store(1)
        whole.add(make(0, 1, [0]))
        cut.cut = [1]
        self.check(whole, cut, False)

    def test_other_kept_capabilities(self):
        for entries in ([], [((0, 1, 0), None, 1, (BOTH, NO, READ, NO))], [((0, 1, 0), None, 0, (BOTH, NO, READ, WRITE))],
                        [((0, 1, 0), None, 1, (BOTH, NO, READ, (0, 1, 0)))],
                        [((0, 1, 0), (0, 1, 1), 1, (BOTH, NO, READ, WRITE))]):
            other = cut_store()
            other.capabilities = entries
            self.check(cut_store(), other, False)

    def test_other_headers(self):
        for change in (make(0, 2, [1, 1]), make(0, 2, [1, 0], (0, 1, 0)), make(0, 2, [1, 0], None, [("seal",)]),
                       make(0, 2, [1, 0], None, [("grant", 1, NO_RIGHTS)])):
            other = cut_store()
            other.changes[0][0] = change
            self.check(cut_store(), other, False)

    def test_headers_with_integers_for_booleans(self):
        rights = (((1, 0, 0),) + NO_RIGHTS[1:], (READ,) + NO_RIGHTS[1:])
        stores = [cut_store(publics=[("grant", 1, each)]) for each in rights]
        self.check(stores[0], stores[1], False)

    def test_parts_that_both_know_must_be_equal(self):
        self.check(cut_store(), cut_store(parts={0: [("table", "u")]}), False)
        self.check(cut_store(), cut_store(parts={0: []}), False)
        self.check(cut_store(), cut_store(parts={0: [TABLE], 3: [TABLE]}), False)
        self.check(cut_store(), cut_store(parts={0: [TABLE, TABLE]}), False)

    def test_a_boolean_is_no_integer(self):
        for one, other in ((True, 1), (False, 0)):
            puts = [cut_store(parts={0: [("put", (0, 1, 0), (0, 1, 1), value)]}) for value in (one, other)]
            self.check(puts[0], puts[1], False)
            lenses = [cut_store(parts={1: [("lens", "l", (0, 1, 0), (), (((0, 1, 1), value),))]})
                      for value in (one, other)]
            self.check(lenses[0], lenses[1], False)
            kept = [cut_store([Kept([((0, 1, 0), ("put", (0, 1, 0), (0, 1, 1), value))], [], [])] + [None] * 3)
                    for value in (one, other)]
            self.check(kept[0], kept[1], False)
        self.check(cut_store(parts={0: [("put", (0, 1, 0), (0, 1, 1), True)]}),
                   cut_store(parts={0: [("put", (0, 1, 0), (0, 1, 1), True)]}), True)

    def test_parts_that_one_does_not_know_do_not_matter(self):
        self.check(cut_store(), cut_store(parts={0: UNKNOWN}), True)
        self.check(cut_store(parts={0: UNKNOWN}), cut_store(parts={0: UNKNOWN}), True)
        self.check(cut_store(parts={0: UNKNOWN, 1: [TABLE]}), cut_store(parts={0: [TABLE]}), False)

    def test_what_is_kept(self):
        for place, kept in enumerate([
                Kept([], KEPT.sums, KEPT.texts, KEPT.shares), Kept(KEPT.acts, [], KEPT.texts, KEPT.shares),
                Kept(KEPT.acts, KEPT.sums, [], KEPT.shares), Kept(KEPT.acts, KEPT.sums, KEPT.texts, [])]):
            spaces = [KEPT] * SPACES
            spaces[place] = kept
            self.check(cut_store([KEPT] * SPACES), cut_store(spaces), False)
            spaces[place] = None
            self.check(cut_store([KEPT] * SPACES), cut_store(spaces), True)

    def test_one_may_have_more_changes(self):
        more = cut_store()
        more.add(make(1, 1, [2, 0]))
        more.add(make(0, 3, [2, 1]))
        self.check(cut_store(), more, True)
        more.changes[0][0] = make(0, 2, [1, 1])
        self.check(cut_store(), more, False)

    def test_a_later_change_that_differs(self):
        stores = [cut_store(), cut_store()]
        for store, heard in zip(stores, ([2, 0], [1, 0])):
            store.add(make(1, 1, heard))
        self.check(stores[0], stores[1], False)


class Joined(unittest.TestCase):
    def test_the_longer_list_of_each_member(self):
        first, second = Store(2), Store(2)
        for store in (first, second):
            store.add(make(0, 1, [0, 0]))
        first.add(make(0, 2, [1, 0]))
        second.add(make(1, 1, [1, 0], None, [], {0: [TABLE]}))
        for store in (joined(first, second), joined(second, first)):
            self.assertEqual(store.counts(), [2, 1])
            self.assertEqual(store.changes[1][0].parts[0], (TABLE,))
            self.assertEqual(store.find((0, 2)).header(), (0, 2, (1, 0), None, ()))
        self.assertEqual((first.counts(), second.counts()), ([2, 0], [1, 1]))

    def test_each_part_that_one_of_them_knows(self):
        first = cut_store(parts={0: [TABLE], 1: UNKNOWN, 2: UNKNOWN, 3: [TABLE]})
        second = cut_store(parts={0: UNKNOWN, 1: [("table", "u")], 2: UNKNOWN, 3: [TABLE]})
        for store in (joined(first, second), joined(second, first)):
            self.assertEqual(store.changes[0][0].parts, ((TABLE,), (("table", "u"),), None, (TABLE,)))
        self.assertEqual(first.changes[0][0].parts, ((TABLE,), None, None, (TABLE,)))

    def test_an_empty_part_is_known(self):
        first = cut_store(parts={0: UNKNOWN})
        for store in (joined(first, cut_store(parts={})), joined(cut_store(parts={}), first)):
            self.assertEqual(store.changes[0][0].parts[0], ())

    def test_what_is_kept_of_a_space(self):
        empty = Kept([], [], [], [])
        first, second = cut_store([KEPT, None, None, empty]), cut_store([KEPT, KEPT, None, None])
        for store in (joined(first, second), joined(second, first)):
            self.assertEqual([kept and kept.data() for kept in store.kept],
                             [KEPT.data(), KEPT.data(), None, empty.data()])
            self.assertEqual((store.cut, store.capabilities), (first.cut, first.capabilities))

    def test_nothing_is_shared(self):
        first, second = cut_store([None] * 4), cut_store([Kept(*KEPT.data())] * 4)
        second.add(make(0, 3, [2, 0]))
        before = (first.data(), second.data())
        for store in (joined(first, second), joined(second, first)):
            store.kept[0].acts.clear()
            store.kept[1].texts[0][1].clear()
            store.cut[0] = 0
            store.capabilities.clear()
            store.changes[0].clear()
            self.assertEqual((first.data(), second.data()), before)


def hidden(store, chance, most):
    """The store with fewer changes and with fewer parts, still whole."""
    some = store.copy()
    for changes in some.changes:
        for place, change in enumerate(changes):
            changes[place] = change.with_parts([part if chance.random() < 0.7 else None for part in change.parts])
    for _ in range(most):
        author = chance.randrange(store.members)
        if some.changes[author]:
            last = some.changes[author].pop()
            if not is_whole(some):
                some.changes[author].append(last)
    return some


class RandomStores(unittest.TestCase):
    def test_the_join_has_what_one_of_them_has(self):
        for seed in range(60):
            chance = random.Random(seed)
            maker = Maker(seed, members=3, rude=0.05)
            maker.start()
            full = maker.run(40)
            first, second = hidden(full, chance, 8), hidden(full, chance, 8)
            self.assertIs(agree(first, second), True)
            store = joined(first, second)
            self.assertEqual(store.data(), joined(second, first).data())
            self.assertIs(is_whole(store), True)
            self.assertIs(agree(store, full), True)
            for member in range(3):
                self.assertEqual(store.count(member), max(first.count(member), second.count(member)))
                for change in store.changes[member]:
                    known = [one.find(change.name()) for one in (first, second)]
                    for space in range(SPACES):
                        parts = [one.parts[space] for one in known if one and one.parts[space] is not None]
                        self.assertEqual(change.parts[space], parts[0] if parts else None)
            self.assertEqual(joined(store, full).data(), joined(full, store).data())

    def test_what_is_shown_agrees_with_what_it_is_of(self):
        for seed in range(40):
            maker = Maker(seed, members=4, rude=0.1, spaces=(0, 1, 2, 3))
            maker.publicity = 0.5
            store = maker.run(40)
            allowed = verdicts(store)
            for member in range(4):
                shown = shown_to(store, member)
                self.assertIs(agree(store, shown), True)
                self.assertEqual(joined(store, shown).data(), store.data())
                for space in range(SPACES):
                    known = [change.parts[space] is not None for change in shown.all_changes()]
                    self.assertEqual(set(known), {may_read(store, allowed, member, space)} if known else set())


class Arguments(unittest.TestCase):
    def test_changes_are_made_anew(self):
        change = Change(0, 1, (0,), None, (), [None] * 4)
        store = Store(1)
        store.add(change)
        other = Store(1)
        other.add(change.with_parts([(TABLE,), None, None, None]))
        joined(store, other)
        self.assertEqual(change.parts, (None,) * 4)


if __name__ == "__main__":
    unittest.main()
