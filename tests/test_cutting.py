"""Points 90 to 95: cutting the past away, and what is kept of it."""

import unittest

from kithwhole.changes import Change
from kithwhole.cutting import (
    before_seal, cut_at, is_known, is_known_to, kept_capabilities, kept_of, last_seal,
)
from kithwhole.errors import ForgottenPast
from kithwhole.letters import characters
from kithwhole.meaning import answer
from kithwhole.moments import at, chain, history
from kithwhole.parser import parse
from kithwhole.rights import is_held, verdicts
from kithwhole.sheets import Sheet
from kithwhole.sources import all_sources
from kithwhole.spaces import shown_to
from kithwhole.stocks import shares
from kithwhole.store import SPACES, Kept, Store, is_whole
from kithwhole.why import rests_on
from kithwhole.yielding import conflicts, reasons
from tests.cut_by_hand import cut_by_hand, seals_of
from tests.random_stores import Maker
from tests.support import ALL_RIGHTS, BOTH, NO, NO_RIGHTS, UNKNOWN, Net, make, spot

T = (0, 1, 0)
ALL_KINDS = ["integer", "text", "boolean", "counter", "stock", "letters", ("refer", T)]
I, X, B, N, K, L, R = [(0, 1, place) for place in range(1, 8)]


def kinds_net(members=2):
    """Member 0 makes a table with a column of each kind; the others hold all rights."""
    net = Net(members)
    acts = [("table", "t")] + [("column", T, f"c{place}", holds) for place, holds in enumerate(ALL_KINDS)]
    net.change(0, acts, publics=[("grant", member, ALL_RIGHTS) for member in range(1, members)])
    return net


class LastSeal(unittest.TestCase):
    def test_none_without_a_seal(self):
        net = kinds_net()
        self.assertIsNone(last_seal(net.store))
        self.assertIsNone(last_seal(Store(1)))

    def test_the_last_one(self):
        net = kinds_net()
        net.seal()
        self.assertEqual(last_seal(net.store).name(), (0, 2))
        net.change(0)
        net.seal()
        net.change(0)
        self.assertEqual(last_seal(net.store).name(), (0, 4))
        self.assertIsInstance(last_seal(net.store), Change)

    def test_a_seal_that_is_not_allowed_is_none(self):
        net = kinds_net()
        net.change(1, publics=[("seal",)], capability=(0, 1, 0))
        self.assertIsNone(last_seal(net.store))

    def test_a_seal_that_is_cut_away_is_none(self):
        net = kinds_net()
        net.seal()
        self.assertIsNone(last_seal(cut_at(net.store, last_seal(net.store))))


class BeforeSeal(unittest.TestCase):
    def setUp(self):
        self.net = kinds_net(3)
        self.net.change(1, capability=(0, 1, 0))
        self.net.change(1, capability=(0, 1, 0))
        self.net.seal(heard={1: 1})
        self.net.change(2, capability=(0, 1, 1))
        self.net.change(0)
        self.seal = last_seal(self.net.store)

    def test_the_seal_and_its_past(self):
        before = self.net.store.data()
        past = before_seal(self.net.store, self.seal)
        self.assertEqual(past.counts(), [2, 1, 0])
        self.assertEqual([[change.name() for change in changes] for changes in past.changes],
                         [[(0, 1), (0, 2)], [(1, 1)], []])
        past.kept[0].acts.append(((0, 1, 0), ("table", "t")))
        self.assertEqual(self.net.store.data(), before)

    def test_the_cut_and_what_is_kept_stay(self):
        store = cut_at(self.net.store, self.seal)
        name = store.count(0) + 1
        store.add(make(0, name, store.counts(), None, [("seal",)]))
        past = before_seal(store, last_seal(store))
        self.assertEqual((past.cut, past.capabilities), (store.cut, store.capabilities))
        self.assertEqual([kept.data() for kept in past.kept], [kept.data() for kept in store.kept])

    def test_what_stays_after_the_cut(self):
        before = self.net.store.data()
        store = cut_at(self.net.store, self.seal)
        self.assertEqual(store.cut, [2, 1, 0])
        self.assertEqual(store.members, 3)
        self.assertEqual([[change.name() for change in changes] for changes in store.changes],
                         [[(0, 3)], [(1, 2)], [(2, 1)]])
        self.assertEqual(store.counts(), self.net.store.counts())
        self.assertIs(is_whole(store), True)
        self.assertEqual(self.net.store.data(), before)
        # What had not heard the seal was not allowed, and is not.
        self.assertEqual(verdicts(store), {(0, 3): True, (1, 2): False, (2, 1): True})

    def test_an_earlier_seal(self):
        self.net.seal()
        self.assertEqual(cut_at(self.net.store, self.seal).cut, [2, 1, 0])
        self.assertEqual(last_seal(cut_at(self.net.store, self.seal)).name(), (0, 4))


class Capabilities(unittest.TestCase):
    def test_what_is_held_in_ascending_order(self):
        net = Net(4)
        low = net.invite(3, 2)
        deeper = net.change(2, capability=low[1], publics=[("grant", 1, NO_RIGHTS), ("grant", 1, (BOTH, NO, NO, NO))])
        net.seal()
        self.assertEqual(kept_capabilities(net.store), [
            (low[0], None, 3, ALL_RIGHTS), (low[1], None, 2, ALL_RIGHTS),
            (deeper + (0,), low[1], 1, NO_RIGHTS), (deeper + (1,), low[1], 1, (BOTH, NO, NO, NO))])
        self.assertEqual(cut_at(net.store, last_seal(net.store)).capabilities, kept_capabilities(net.store))

    def test_what_is_revoked_is_not_kept(self):
        net = Net(3)
        one, two = net.invite(1, 2)
        below = net.change(1, capability=one, publics=[("grant", 2, ALL_RIGHTS)])
        net.change(0, publics=[("revoke", one)])
        self.assertEqual(kept_capabilities(net.store), [(two, None, 2, ALL_RIGHTS)])
        self.assertIs(is_held(net.store, net.allowed(), below + (0,)), False)

    def test_what_was_granted_by_a_change_that_is_not_allowed_is_not_kept(self):
        net = Net(3)
        one, = net.invite(1, rights=(BOTH, NO, NO, NO))
        net.change(1, capability=one, publics=[("grant", 2, ALL_RIGHTS)])
        self.assertEqual(kept_capabilities(net.store), [(one, None, 1, (BOTH, NO, NO, NO))])

    def test_only_what_is_cut_away_tells(self):
        net = Net(3)
        one, = net.invite(1)
        net.seal()
        net.change(0, publics=[("revoke", one), ("grant", 2, ALL_RIGHTS)])
        store = cut_at(net.store, last_seal(net.store))
        self.assertEqual(store.capabilities, [(one, None, 1, ALL_RIGHTS)])
        self.assertIs(is_held(store, verdicts(store), one), False)
        self.assertIs(is_held(store, verdicts(store), (0, 3, 1)), True)

    def test_kept_ones_are_kept_again(self):
        net = Net(2)
        one, = net.invite(1)
        net.seal()
        store = cut_at(net.store, last_seal(net.store))
        store.add(make(0, 3, [2, 0], None, [("grant", 1, NO_RIGHTS), ("seal",)]))
        later = cut_at(store, last_seal(store))
        self.assertEqual(later.capabilities, [(one, None, 1, ALL_RIGHTS), ((0, 3, 0), None, 1, NO_RIGHTS)])


class KeptThings(unittest.TestCase):
    def kept(self, net, space=0):
        return kept_of(net.store, space)

    def acts(self, net, space=0):
        return [spot for spot, _ in self.kept(net, space).acts]

    def test_nothing_is_kept_of_an_empty_space(self):
        self.assertEqual(kept_of(Store(2), 3).data(), ((), (), (), ()))

    def test_tables_columns_rules_lenses_and_live_rows(self):
        net = kinds_net()
        name = net.change(0, [("unique", T, (I,)), ("unique", T, ()), ("row", T), ("row", T),
                              ("lens", "l", T, ((I, "i"),), ()), ("lens", "l", T, ((I, "id"),), ()),
                              ("column", (0, 9, 9), "z", "text")])
        net.change(0, [("drop", name + (2,))])
        self.assertEqual(self.acts(net), [T, I, X, B, N, K, L, R, name + (0,), name + (3,), name + (4,)])
        self.assertEqual(self.kept(net).acts[0], (T, ("table", "t")))

    def test_drops_and_undos_are_not_kept(self):
        net = kinds_net()
        row = spot(net.change(0, [("row", T)]), 0)
        gone = spot(net.change(0, [("row", T)]), 0)
        name = net.change(0, [("put", row, I, 1)])
        net.change(0, [("drop", gone), ("undo", name)])
        self.assertEqual(self.acts(net)[8:], [row])

    def test_the_writes_that_show(self):
        net = kinds_net()
        row, other = (0, 2, 0), (0, 2, 1)
        net.change(0, [("row", T), ("row", T), ("put", row, I, 1), ("put", row, I, 2), ("refer", row, R, other)])
        one = net.change(1, [("put", row, X, "x"), ("put", row, I, "no")], capability=(0, 1, 0))
        two = net.change(0, [("put", row, X, "y")], heard={1: 0})
        self.assertEqual(self.acts(net)[8:], [row, other, (0, 2, 3), (0, 2, 4), two + (0,), one + (0,)])

    def test_writes_in_cells_of_rows_that_are_not_live_are_not_kept(self):
        net = kinds_net()
        net.change(0, [("row", T), ("put", (0, 2, 0), I, 1), ("add", (0, 2, 0), N, 1), ("add", (0, 2, 0), K, 1),
                       ("insert", (0, 2, 0), L, None, "x")])
        net.change(0, [("drop", (0, 2, 0))])
        self.assertEqual(self.kept(net).data(), (self.kept(net).data()[0], (), (), ()))
        self.assertEqual(self.acts(net)[8:], [])

    def test_rows_that_yield_are_live(self):
        net = kinds_net()
        net.change(0, [("unique", T, (I,)), ("row", T), ("row", T), ("put", (0, 2, 1), I, 1), ("put", (0, 2, 2), I, 1)])
        self.assertEqual(self.acts(net)[8:], [(0, 2, place) for place in range(5)])

    def test_sums_that_are_not_0(self):
        net = kinds_net()
        rows = [(0, 2, place) for place in range(3)]
        net.change(0, [("row", T), ("row", T), ("row", T), ("add", rows[2], N, 7), ("add", rows[0], N, -3),
                       ("add", rows[1], N, 2), ("add", rows[1], N, -2)])
        self.assertEqual(self.kept(net).sums, [((rows[0], N), -3), ((rows[2], N), 7)])
        self.assertEqual(self.acts(net)[8:], rows)

    def test_the_characters_that_show(self):
        net = kinds_net()
        row, other = (0, 2, 0), (0, 2, 1)
        net.change(0, [("row", T), ("row", T), ("insert", row, L, None, "abc"), ("insert", other, L, None, "z"),
                       ("remove", (0, 2, 2, 1)), ("remove", (0, 2, 3, 0)), ("insert", row, L, (0, 2, 2, 0), "x")])
        self.assertEqual(self.kept(net).texts, [
            ((row, L), [((0, 2, 2, 0), "a"), ((0, 2, 6, 0), "x"), ((0, 2, 2, 2), "c")])])

    def test_shares_that_are_not_0(self):
        net = kinds_net(3)
        row = (0, 2, 0)
        net.change(0, [("row", T), ("add", row, K, 5), ("lend", row, K, 2, 2)])
        net.change(2, [("lend", row, K, 1, 2)], capability=(0, 1, 1))
        self.assertEqual(self.kept(net).shares, [((row, K, 0), 3), ((row, K, 1), 2)])

    def test_the_order_of_tables_rows_and_columns(self):
        net = Net(1)
        a, b = (0, 1, 0), (0, 1, 1)
        acts = [("table", "a"), ("table", "b"), ("column", b, "n", "counter"), ("column", a, "m", "counter"),
                ("column", a, "n", "counter"), ("row", b), ("row", a), ("row", a)]
        net.change(0, acts + [("add", (0, 1, row), (0, 1, column), 1)
                              for row, column in ((5, 2), (7, 4), (7, 3), (6, 4), (6, 3))])
        self.assertEqual([cell for cell, _ in self.kept(net).sums],
                         [((0, 1, row), (0, 1, column)) for row, column in ((6, 3), (6, 4), (7, 3), (7, 4), (5, 2))])

    def test_what_does_not_count_is_not_kept(self):
        net = kinds_net()
        row = (0, 2, 0)
        net.change(0, [("row", T)], publics=[("grant", 1, (NO, BOTH, BOTH, BOTH))])
        net.change(1, parts={space: [("put", row, I, 1), ("table", "u")] for space in (0, 1)}, capability=(0, 2, 0))
        self.assertEqual(self.acts(net)[8:], [row])
        self.assertEqual(self.acts(net, 1), [(1, 1, 1)])

    def test_a_space_of_which_a_part_is_not_known_is_not_known(self):
        net = Net(1)
        net.change(0, parts={0: UNKNOWN})
        self.assertIsNone(kept_of(net.store, 0))
        self.assertEqual(kept_of(net.store, 1).data(), ((), (), (), ()))
        net.seal()
        store = cut_at(net.store, last_seal(net.store))
        self.assertIsNone(store.kept[0])
        self.assertIsNotNone(store.kept[1])

    def test_a_space_of_which_it_was_not_known_is_not_known(self):
        store = Store(1)
        store.cut = [1]
        store.kept[2] = None
        store.add(make(0, 2, [1], None, [("seal",)]))
        self.assertIsNone(kept_of(store, 2))
        self.assertEqual([kept is not None for kept in cut_at(store, last_seal(store)).kept],
                         [True, True, False, True])

    def test_a_part_behind_the_seal_need_not_be_known(self):
        net = kinds_net()
        net.seal()
        net.change(0, parts={0: UNKNOWN})
        seal = last_seal(net.store)
        self.assertIsNotNone(cut_at(net.store, seal).kept[0])
        self.assertIs(is_known(net.store, 0), False)
        self.assertIs(is_known_to(net.store, 0, seal), True)

    def test_kept_acts_are_kept_again(self):
        net = kinds_net()
        net.change(0, [("row", T), ("put", (0, 2, 0), I, 1), ("add", (0, 2, 0), N, 1), ("add", (0, 2, 0), K, 4),
                       ("insert", (0, 2, 0), L, None, "ab")], publics=[("seal",)])
        store = cut_at(net.store, last_seal(net.store))
        row = (0, 2, 0)
        store.add(make(0, 3, [2, 0], None, [], {0: [
            ("put", row, I, 2), ("add", row, N, 2), ("spend", row, K, 3), ("remove", (0, 2, 4, 0))]}))
        store.add(make(0, 4, [3, 0], None, [("seal",)]))
        kept = cut_at(store, last_seal(store)).kept[0]
        self.assertEqual([spot for spot, _ in kept.acts][8:], [row, (0, 3, 0)])
        self.assertEqual((kept.sums, kept.shares), ([((row, N), 3)], [((row, K, 0), 1)]))
        self.assertEqual(kept.texts, [((row, L), [((0, 2, 4, 1), "b")])])


class Known(unittest.TestCase):
    def test_fully_known(self):
        net = Net(1)
        self.assertEqual([is_known(net.store, space) for space in range(SPACES)], [True] * 4)
        net.change(0, parts={1: UNKNOWN})
        net.store.kept[3] = None
        self.assertEqual([is_known(net.store, space) for space in range(SPACES)], [True, False, True, False])

    def test_known_up_to_a_seal(self):
        net = Net(2)
        net.invite(1)
        net.change(1, parts={1: UNKNOWN}, capability=(0, 1, 0))
        seal = net.store.find(net.seal(heard={1: 0}))
        later = net.store.find(net.seal())
        self.assertEqual([is_known_to(net.store, space, seal) for space in range(SPACES)], [True] * 4)
        self.assertEqual([is_known_to(net.store, space, later) for space in range(SPACES)], [True, False, True, True])
        net.store.kept[2] = None
        self.assertEqual([is_known_to(net.store, space, seal) for space in range(SPACES)], [True, True, False, True])

    def test_the_part_of_the_seal_itself_counts(self):
        net = Net(1)
        seal = net.store.find(net.change(0, parts={1: UNKNOWN}, publics=[("seal",)]))
        self.assertEqual([is_known_to(net.store, space, seal) for space in range(2)], [True, False])


def random_store(seed):
    maker = Maker(seed, members=1 + seed % 4, rude=(0.0, 0.05, 0.2)[seed % 3],
                  focus=(None, "stock", "letters", "integer")[seed // 2 % 4])
    if seed % 5:
        maker.start()
    return maker.run(30 + seed % 50, (0.1, 0.2, 0.3)[seed // 3 % 3])


class RandomCuts(unittest.TestCase):
    """Points 92, 93, 95 and 126, for random stores."""

    def told(self, store, space):
        """All that is told of a space, but for verdicts and what is told of cut away changes alone."""
        allowed = verdicts(store)
        sheet = Sheet(store, allowed, space)
        cells = [(row, column) for table in sheet.tables for row in sheet.live[table] for column in sheet.columns[table]]
        rows = {name: source.rows for name, source in all_sources(store).items() if name.startswith(f"s{space}_")}
        return {
            "sources": repr(rows), "conflicts": conflicts(sheet), "reasons": reasons(sheet),
            "entries": repr([sheet.entry(row, column) for row, column in cells]),
            "texts": [[sign for sign in characters(store, allowed, space, row, column) if sign[2]]
                      for row, column in cells],
            "shares": [shares(sheet, row, column) for row, column in cells],
            "rests": [rests_on(store, allowed, name, row[0]) for name in rows for row in rows[name]],
        }

    def test_all_is_told_as_before(self):
        cuts = 0
        for seed in range(90):
            store = random_store(seed)
            told = [self.told(store, space) for space in range(2)]
            for seal in seals_of(store):
                cut = cut_at(store, seal)
                self.assertEqual([self.told(cut, space) for space in range(2)], told, seed)
                cuts += 1
        self.assertGreater(cuts, 40)

    def test_what_is_kept_is_what_the_points_tell(self):
        for seed in range(90, 180):
            store = random_store(seed)
            for seal in seals_of(store):
                self.assertEqual(cut_at(store, seal).data(), cut_by_hand(store, seal).data())
                self.assertEqual(last_seal(store).name(), seals_of(store)[-1].name())

    def test_cutting_twice(self):
        twice = 0
        for seed in range(120):
            store = random_store(seed)
            seals = seals_of(store)
            for place, seal in enumerate(seals):
                for later in seals[place + 1:]:
                    before = store.data()
                    self.assertEqual(cut_at(cut_at(store, seal), later).data(), cut_at(store, later).data())
                    self.assertEqual(store.data(), before)
                    twice += 1
        self.assertGreater(twice, 30)

    def test_what_a_member_is_shown(self):
        for seed in range(1, 60, 2):
            store = random_store(seed)
            for seal in seals_of(store)[-1:]:
                member = store.members - 1
                shown, cut = shown_to(store, member), cut_at(shown_to(store, member), seal)
                known = [is_known_to(shown, space, seal) for space in range(SPACES)]
                self.assertEqual([kept is not None for kept in cut.kept], known)
                for space in range(SPACES):
                    if known[space]:
                        self.assertEqual(cut.kept[space].data(), cut_at(store, seal).kept[space].data())
                self.assertEqual(cut.capabilities, cut_at(store, seal).capabilities)

    def test_moments_and_histories(self):
        """Point 126: each moment that both have is told as before."""
        compared = 0
        tree = parse("select * from s0_a order by id")
        for seed in range(40):
            store = random_store(seed)
            for seal in seals_of(store)[-1:]:
                cut = cut_at(store, seal)
                for counts in chain(cut)[::3]:
                    one, other = all_sources(at(cut, counts)), all_sources(at(store, counts))
                    self.assertEqual(repr([source.rows for source in one.values()]),
                                     repr([source.rows for source in other.values()]))
                    compared += 1
                with self.assertRaises(ForgottenPast):
                    at(cut, [0] * store.members)
                sources = all_sources(at(store, cut.cut))
                rows = answer(tree, sources, [])[1] if "s0_a" in sources else []
                told = history(cut, tree, [])
                self.assertEqual([each for each in told if each[0] is None], [(None, rows, [])] if rows else [])
        self.assertGreater(compared, 60)


class LaterChanges(unittest.TestCase):
    """Point 93: the cut comes before the changes or behind them."""

    def test_the_cut_and_later_changes_go_together(self):
        for seed in range(30):
            maker = Maker(seed, members=3, rude=0.05, focus=(None, "stock", "letters")[seed % 3])
            maker.start()
            maker.run(25, 0.1)
            # The founder has heard all and seals; then all hear of it.
            counts = maker.store.counts()
            maker.store.add(make(0, counts[0] + 1, counts, None, [("seal",)]))
            counts[0] += 1
            maker.views = [list(counts) for _ in range(3)]
            early = cut_at(maker.store, last_seal(maker.store))
            maker.run(25, 0)
            seal = maker.store.find((0, counts[0]))
            if not verdicts(maker.store)[seal.name()]:
                continue
            for changes in maker.store.changes:
                for change in changes:
                    if change.number > counts[change.author]:
                        early.add(change)
            self.assertEqual(early.data(), cut_at(maker.store, seal).data())
            told = RandomCuts()
            for space in range(2):
                self.assertEqual(told.told(early, space), told.told(maker.store, space))

    def test_kept_things_are_not_shared(self):
        net = kinds_net()
        net.change(0, [("row", T), ("insert", (0, 2, 0), L, None, "a")], publics=[("seal",)])
        seal = last_seal(net.store)
        store = cut_at(net.store, seal)
        again = cut_at(store, store.changes[0][0]) if store.changes[0] else store.copy()
        again.kept[0].texts[0][1].clear()
        again.kept[0].acts.clear()
        self.assertEqual(len(store.kept[0].texts[0][1]), 1)
        self.assertIsInstance(store.kept[0], Kept)


if __name__ == "__main__":
    unittest.main()
