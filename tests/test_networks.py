"""Points 2 and 111: networks of replicas in which packets come in different orders, late and twice."""

import unittest

from kithwhole.cutting import is_known
from kithwhole.errors import KithwholeError, NothingToTrim, UnknownTable
from kithwhole.moments import chain, is_moment
from kithwhole.spaces import agree
from kithwhole.rights import verdicts
from kithwhole.sheets import Sheet
from kithwhole.store import is_whole
from tests.networks import Network

QUESTIONS = ["select * from {0}", "select count(*), max(id) from {0}", "select x.id from {0} x join {0} y on x.id = y.id"]


def outcome(call, *arguments):
    try:
        return repr(call(*arguments))
    except KithwholeError as error:
        return type(error).__name__ + repr(sorted(vars(error).items()))


class Networks(unittest.TestCase):
    def told(self, replica, store, space, history):
        """All that a replica tells of a space."""
        sheet = Sheet(store, verdicts(store), space)
        told = [outcome(replica.conflicts, space)]
        for table in sheet.tables:
            for row in sheet.live[table]:
                for column in sheet.columns[table]:
                    if sheet.holds(column) == "stock":
                        told += [replica.shares(space, row, column), replica.danger(space, row, column, 0)]
        for name in (f"s{space}_a", f"s{space}_b"):
            told += [outcome(replica.ask, question.format(name)) for question in QUESTIONS]
            told += [self.ways(replica, name), outcome(lambda: replica.live(f"select * from {name}").turn())]
            if history:
                told.append(outcome(replica.history, f"select id from {name}"))
        return told

    def ways(self, replica, name):
        try:
            rows = replica.ask(f"select * from {name}")[1]
        except UnknownTable:
            return None
        return [replica.why(f"select * from {name} x", (), row) for row in rows[:4]]

    def compare(self, network, told, histories=False):
        """What two replicas with the same counts tell of the spaces that both fully know."""
        stores = [network.store(member) for member in range(network.members)]
        self.stories = {}
        for one in range(network.members):
            self.assertIs(is_whole(stores[one]), True)
            self.assertEqual([store.count(one) <= stores[one].count(one) for store in stores], [True] * network.members)
            for other in range(one):
                first, second = stores[one], stores[other]
                self.agree(first, second)
                if first.counts() != second.counts():
                    continue
                same_cut = first.cut == second.cut
                told["same cut" if same_cut else "other cut"] = told.get("same cut" if same_cut else "other cut", 0) + 1
                names = [change.name() for change in first.all_changes() if second.find(change.name())]
                self.assertEqual([network.replicas[one].verdict(name) for name in names],
                                 [network.replicas[other].verdict(name) for name in names])
                for space in network.spaces:
                    if is_known(first, space) and is_known(second, space):
                        self.same(network, one, other, space, histories and same_cut)
                        told["compared"] = told.get("compared", 0) + 1

    def agree(self, first, second):
        """Two replicas that have a change of one name have the same change (point 111, 2)."""
        if first.cut == second.cut:
            self.assertIs(agree(first, second), True)
        for change in first.all_changes():
            twin = second.find(change.name())
            if twin is not None:
                self.assertEqual(repr(change.header()), repr(twin.header()))
                for part, known in zip(change.parts, twin.parts):
                    if part is not None and known is not None:
                        self.assertEqual(repr(part), repr(known))

    def same(self, network, one, other, space, history):
        first, second = network.store(one), network.store(other)
        for member in (one, other):
            if (member, space, history) not in self.stories:
                told = self.told(network.replicas[member], network.store(member), space, history)
                self.stories[member, space, history] = told
        self.assertEqual(self.stories[one, space, history], self.stories[other, space, history])
        # The moments that both have.
        for counts in chain(first)[::11]:
            if one == other + 1 and is_moment(second, counts):
                for question in ("select * from s{}_a", "select * from s{}_b"):
                    self.assertEqual(*[outcome(network.replicas[member].ask, question.format(space), (), counts)
                                       for member in (one, other)])

    def compare_behind_cuts(self, network, told):
        """The founder seals, all hear of it, and some of them trim."""
        network.replicas[0].act(None, [("seal",)], {})
        network.settle()
        for member in range(network.members):
            if network.chance(0.5):
                try:
                    network.replicas[member].trim()
                    network.happen("trim")
                except NothingToTrim:
                    network.happen("nothing to trim")
        self.compare(network, told)

    def check(self, seeds, steps, happened=None, **others):
        happened, told = happened or {}, {}
        for seed in seeds:
            with self.subTest(seed):
                network = Network(seed, **others)
                network.start()
                for _ in range(3):
                    network.run(steps // 3)
                    self.compare(network, told)
                network.settle()
                self.compare(network, told, histories=True)
                self.compare_behind_cuts(network, told)
                counts = network.store(0).counts()
                self.assertEqual([network.store(member).counts() for member in range(network.members)],
                                 [counts] * network.members)
                self.assertEqual(network.leaks, [])
                for word, many in network.happened.items():
                    happened[word] = happened.get(word, 0) + many
        return happened, told

    def test_three_members(self):
        happened, told = self.check(range(9), 90)
        for word in ("act", "take", "trim", "dark", "UncountedChange"):
            self.assertGreater(happened.get(word, 0), 10, word)
        for word in ("same cut", "other cut", "compared"):
            self.assertGreater(told.get(word, 0), 3, word)

    def test_two_members_that_trim_often(self):
        happened, told = self.check(range(100, 112), 90, members=2, seals=0.5, trimming=0.3, publicity=0.5)
        self.assertGreater(happened["trim"], 40)
        self.assertGreater(told["other cut"], 5)

    def test_six_members(self):
        _, told = self.check(range(200, 202), 120, members=6, spaces=(0, 1, 2, 3))
        self.assertGreater(told["compared"], 10)

    def test_without_failures(self):
        happened, told = self.check(range(300, 304), 80, failing=0, rude=0, members=5)
        self.assertEqual(happened.get("dark", 0), 0)
        self.assertGreater(told["compared"], 20)

    def test_power_that_fails_often(self):
        happened, _ = self.check(range(400, 408), 90, failing=0.3)
        self.assertGreater(happened["dark"], 80)

    def test_packets_that_come_late(self):
        happened, _ = self.check(range(600, 604), 120, late=0.5, failing=0)
        self.assertGreater(happened["unfit"], 1)

    def test_one_member(self):
        happened, _ = self.check(range(500, 504), 40, members=1, seals=0.3, trimming=0.3, publicity=0.5)
        self.assertGreater(happened["trim"], 3)


if __name__ == "__main__":
    unittest.main()
