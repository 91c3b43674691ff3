"""Random edits through lenses, and random sources: what a second reading of the document tells."""

import random
import unittest

from kithwhole.errors import KithwholeError
from kithwhole.lenses import through
from kithwhole.rights import verdicts
from kithwhole.sources import all_sources, sources
from tests.cut_by_hand import cut_by_hand, seals_of
from tests.lens_oracle import Editing, Picture
from tests.oracle import Oracle
from tests.random_edits import random_edit, random_net
from tests.random_stores import Maker

KINDS = {"integer": "integer", "counter": "integer", "stock": "integer", "boolean": "boolean"}


def outcome(function, *arguments):
    try:
        return repr(function(*arguments))
    except KithwholeError as error:
        return type(error).__name__ + repr(sorted(vars(error).items()))


class Sources(unittest.TestCase):
    def compare(self, store, space):
        allowed = verdicts(store)
        oracle = Oracle(store, allowed, space)
        picture = Picture(oracle)
        told = sources(store, allowed, space)
        self.assertEqual([source.name for source in told],
                         [f"s{space}_{oracle.at[spot][1]}" for spot in picture.holding()])
        for source, spot in zip(told, picture.holding()):
            self.assertEqual(repr(source.rows), repr(picture.told(spot)))
            shown = picture.lenses[spot][1] if spot in picture.lenses else [
                (column, oracle.at[column][2]) for column in oracle.columns(spot)]
            kinds = {"id": "text"}
            for column, name in shown:
                kinds.setdefault(name, KINDS.get(oracle.holds(column), "text"))
            self.assertEqual(list(zip(source.columns, source.kinds)), list(kinds.items()))

    def test_random_stores(self):
        for seed in range(120):
            with self.subTest(seed):
                maker = Maker(seed, members=1 + seed % 4, rude=(0.0, 0.05, 0.2)[seed % 3])
                maker.start()
                store = maker.run(30 + seed % 40, 0.1)
                self.compare(store, seed % 2)
                for seal in seals_of(store)[-1:]:
                    self.compare(cut_by_hand(store, seal), seed % 2)

    def test_stores_with_lenses(self):
        for seed in range(100):
            with self.subTest(seed):
                self.compare(random_net(random.Random(seed))[0].store, 0)


class Edits(unittest.TestCase):
    def cases(self, seeds):
        for seed in seeds:
            chance = random.Random(seed)
            net, lenses = random_net(chance)
            picture = Picture(Oracle(net.store, net.allowed(), 0))
            lenses = [lens for lens in lenses if lens in picture.lenses]
            if lenses:
                member = chance.choice([0, 1, 2, 2])
                made = [f"{member}.{net.store.count(member) + 1}.0"] if chance.random() < 0.3 else []
                lens = chance.choice(lenses)
                edits = [random_edit(chance, picture, lens, made) for _ in range(chance.randrange(5))]
                yield seed, net, (member, None if member == 0 else (0, 1, member - 1), 0, lens), edits

    def test_random_edits(self):
        told = {}
        for seed, net, where, edits in self.cases(range(700)):
            with self.subTest(seed):
                before = net.store.data()
                expected = outcome(Editing(net.store, *where).run, edits)
                self.assertEqual(outcome(through, net.store, *where, edits), expected)
                self.assertEqual(net.store.data(), before)
                word = expected.split("[")[0]
                told[word] = told.get(word, 0) + 1
        for word in ("", "NoSuchRow", "NotWritable", "TurnsMore", "UncountedChange", "WrongValue"):
            self.assertGreater(told.get(word, 0), 5, word)

    def test_edits_after_a_cut(self):
        cuts = 0
        for seed, net, where, edits in self.cases(range(700, 1000)):
            with self.subTest(seed):
                net.seal()
                cut = cut_by_hand(net.store, seals_of(net.store)[0])
                expected = outcome(through, net.store, *where, edits)
                self.assertEqual(outcome(through, cut, *where, edits), expected)
                cuts += expected.startswith("[(")
        self.assertGreater(cuts, 20)

    def test_what_is_written_is_what_is_read(self):
        taken = 0
        for seed, net, where, edits in self.cases(range(1000, 1300)):
            if outcome(through, net.store, *where, edits)[0] != "[" or not edits or edits[-1][0] != "set":
                continue
            with self.subTest(seed):
                member, capability, _, lens = where
                shown = Picture(Oracle(net.store, net.allowed(), 0)).lenses[lens][1]
                net.change(member, through(net.store, *where, edits), capability=capability)
                rows = {row[0]: row for row in Picture(Oracle(net.store, net.allowed(), 0)).told(lens)}
                place = [name for _, name in shown].index(edits[-1][2])
                self.assertEqual(rows[edits[-1][1]][place + 1], edits[-1][3])
                self.assertTrue(all_sources(net.store))
                taken += 1
        self.assertGreater(taken, 15)


if __name__ == "__main__":
    unittest.main()
