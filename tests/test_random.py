"""Random stores: the program tells what the oracle tells, with and without a cut, with unknown parts."""

import random
import unittest

from kithwhole.letters import characters, text_of
from kithwhole.rights import (
    allowed_seals, capability_info, counts_in, is_above, is_fit, is_held, may_read, revoked_by, verdicts,
    writing_capabilities,
)
from kithwhole.sheets import Sheet
from kithwhole.stocks import flows, shares, shorts
from kithwhole.store import is_whole
from kithwhole.undo import effective_acts, is_closed, knows, taking_effect, undone_by
from kithwhole.yielding import conflicts, reasons, showing
from tests.cut_by_hand import cut_by_hand, seals_of
from tests.oracle import Oracle
from tests.random_stores import Maker

SEEDS = 240
FOCUS = (None, "stock", "letters", "integer", None)


def random_store(seed, seals):
    maker = Maker(seed, members=1 + seed % 4, rude=(0.0, 0.05, 0.2)[seed % 3], focus=FOCUS[seed // 2 % 5])
    if seed % 5:
        maker.start()
    return maker.run(30 + seed % 60, seals)


def hide_parts(store, seed):
    """Make some parts unknown."""
    chance = random.Random(seed)
    for changes in store.changes:
        for index, change in enumerate(changes):
            parts = [None if chance.random() < 0.15 else part for part in change.parts]
            changes[index] = change.with_parts(parts)


class AgainstTheOracle(unittest.TestCase):
    def compare(self, store, space):
        self.assertIs(is_whole(store), True)
        before = store.data()
        allowed = verdicts(store)
        oracle = Oracle(store, allowed, space)
        self.compare_rights(store, allowed, oracle)
        self.compare_effects(store, allowed, oracle)
        sheet = Sheet(store, allowed, space)
        self.compare_making(sheet, oracle)
        for table in sheet.tables:
            for row in [spot for spot, act in oracle.acts if act[0] == "row" and oracle.table_of(spot) == table]:
                for column in sheet.columns[table]:
                    self.compare_cell(store, allowed, sheet, oracle, row, column)
        hidden = oracle.reasons()
        self.assertEqual(reasons(sheet), hidden)
        for table in sheet.tables:
            self.assertEqual(showing(sheet, table), [row for row in oracle.live(table) if row not in hidden])
        self.assertEqual(conflicts(sheet), oracle.conflicts())
        self.assertEqual(store.data(), before)

    def compare_rights(self, store, allowed, oracle):
        names = oracle.order
        self.assertEqual(set(allowed), set(names))
        self.assertEqual([change.name() for change in allowed_seals(store, allowed)], oracle.seals)
        capabilities = [None, (0, 9, 0)] + [entry[0] for entry in store.capabilities]
        for name in names:
            change = oracle.changes[name]
            self.assertIs(allowed[name], oracle.should_be_allowed(name))
            self.assertIs(is_fit(store, change), oracle.fit(name))
            self.assertEqual(revoked_by(store, change), oracle.revoked(name))
            self.assertIs(counts_in(store, allowed, change, oracle.space), oracle.counts(name))
            capabilities += [name + (place,) for place in range(len(change.publics))]
        capabilities = list(dict.fromkeys(capabilities))
        held = [each for each in capabilities if oracle.held(each)]
        for capability in capabilities:
            there = oracle.there(capability)
            self.assertEqual(capability_info(store, capability), oracle.stated(capability) if there else None)
            self.assertIs(is_held(store, allowed, capability), capability in held)
            for other in capabilities[:6]:
                self.assertIs(is_above(store, other, capability), oracle.above(other, capability))
        for member in range(1, store.members):
            own = sorted(each for each in held if each and oracle.stated(each)[1] == member)
            rights = {each: oracle.stated(each)[2][oracle.space] for each in own}
            self.assertIs(may_read(store, allowed, member, oracle.space), any(rights[each][0] for each in own))
            self.assertEqual(writing_capabilities(store, allowed, member, oracle.space),
                             [each for each in own if rights[each][1]])

    def compare_effects(self, store, allowed, oracle):
        space = oracle.space
        self.assertEqual(taking_effect(store, allowed, space), oracle.effect)
        self.assertEqual(effective_acts(store, allowed, space), oracle.acts)
        for index, name in enumerate(oracle.order):
            named = dict.fromkeys(act[1] for act in oracle.part(name) if act[0] == "undo")
            undone = [each for each in named if oracle.undoes(name, each)]
            self.assertEqual(undone_by(store, allowed, oracle.changes[name], space), undone)
            other = oracle.order[7 * index % len(oracle.order)]
            self.assertIs(is_closed(store, allowed, name + (0,), other), oracle.closed(name, other))
            self.assertIs(knows(store, name + (1,), other + (0,)), oracle.knows(name + (1,), other + (0,)))

    def compare_making(self, sheet, oracle):
        self.assertEqual(sheet.acts, oracle.acts)
        self.assertEqual(sheet.tables, oracle.tables())
        for table in sheet.tables:
            self.assertEqual(sheet.columns[table], oracle.columns(table))
            self.assertEqual(list(zip(sheet.rule_spots[table], sheet.rules[table])), oracle.rules(table))
            self.assertEqual(sheet.live[table], oracle.live(table))
        lenses = oracle.lenses()
        self.assertEqual(sheet.lenses, list(lenses))
        self.assertEqual([sheet.lens(spot) for spot in sheet.lenses], list(lenses.values()))
        for spot, act in oracle.acts:
            self.assertEqual(sheet.table_of(spot), oracle.table_of(spot))
            self.assertEqual(sheet.act_of(spot), act)

    def compare_cell(self, store, allowed, sheet, oracle, row, column):
        writes = oracle.showing_writes(row, column)
        self.assertEqual(sheet.writes(row, column), oracle.writes(row, column))
        self.assertEqual(sheet.shown(row, column), oracle.shown(row, column))
        self.assertEqual(sheet.counted(row, column), writes[-1] if writes else None)
        entry = oracle.entry(row, column)
        self.assertEqual(sheet.entry(row, column), entry)
        self.assertIs(type(sheet.entry(row, column)), type(entry))
        if oracle.holds(column) == "letters":
            listed = characters(store, allowed, oracle.space, row, column)
            self.assertEqual(listed, oracle.characters(row, column))
            self.assertEqual(text_of(store, allowed, oracle.space, row, column), entry)
        self.assertEqual(flows(sheet, row, column), oracle.flows(row, column))
        self.assertEqual(shares(sheet, row, column), oracle.shares(row, column))
        self.assertGreaterEqual(min(shares(sheet, row, column)), 0)

    def test_random_stores(self):
        for seed in range(SEEDS):
            with self.subTest(seed):
                store = random_store(seed, (0, 0, 0.1, 0.3)[seed // 3 % 4])
                self.compare(store, seed % 2)

    def test_unknown_parts(self):
        for seed in range(0, SEEDS, 4):
            with self.subTest(seed):
                store = random_store(seed, 0.1)
                hide_parts(store, seed)
                self.compare(store, 0)

    def test_stores_that_are_cut(self):
        for seed in range(1, SEEDS, 2):
            with self.subTest(seed):
                store = random_store(seed, 0.25)
                for seal in seals_of(store):
                    cut = cut_by_hand(store, seal)
                    self.compare(cut, 0)
                    cut.kept[0] = None
                    self.compare(cut, 0)


class TheCutChangesNothing(unittest.TestCase):
    """Point 93, which tells whether points 11 to 48 and 112 to 117 take what is kept as they should."""

    def same(self, store, cut, space):
        allowed, later = verdicts(store), verdicts(cut)
        self.assertEqual({name: allowed[name] for name in later}, later)
        for member in range(store.members):
            self.assertIs(may_read(cut, later, member, space), may_read(store, allowed, member, space))
            self.assertEqual(writing_capabilities(cut, later, member, space),
                             writing_capabilities(store, allowed, member, space))
        whole, short = Sheet(store, allowed, space), Sheet(cut, later, space)
        for word in ("tables", "columns", "rules", "rule_spots", "live", "lenses"):
            self.assertEqual(getattr(short, word), getattr(whole, word))
        self.assertEqual([short.lens(spot) for spot in short.lenses], [whole.lens(spot) for spot in whole.lenses])
        self.assertEqual(reasons(short), reasons(whole))
        self.assertEqual(conflicts(short), conflicts(whole))
        self.assertEqual(shorts(short), [pair for pair in shorts(whole) if pair[0] in short.place])
        for table in whole.tables:
            for row in whole.live[table]:
                for column in whole.columns[table]:
                    self.assertEqual(short.entry(row, column), whole.entry(row, column))
                    self.assertEqual(short.counted(row, column), whole.counted(row, column))
                    self.assertEqual(shares(short, row, column), shares(whole, row, column))

    def test_cutting(self):
        cuts = 0
        for seed in range(SEEDS):
            with self.subTest(seed):
                store = random_store(seed, (0.1, 0.2, 0.3)[seed // 3 % 3])
                before = store
                for seal in seals_of(store):
                    cut = cut_by_hand(before, seal)
                    self.assertEqual(cut.data(), cut_by_hand(store, seal).data())
                    self.same(store, cut, seed % 2)
                    before = cut
                    cuts += 1
        self.assertGreater(cuts, 50)


if __name__ == "__main__":
    unittest.main()
