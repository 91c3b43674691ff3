"""Points 122 to 126: moments, the store at a moment, the chain, the history of a question."""

import itertools
import random
import unittest

from kithwhole.errors import ForgottenPast, NoMoment, UnknownTable
from kithwhole.live import came, went
from kithwhole.meaning import answer
from kithwhole.moments import at, between, chain, history, is_moment, join, meet, moment_of
from kithwhole.parser import parse
from kithwhole.rights import verdicts
from kithwhole.sources import all_sources
from kithwhole.store import Kept, Store, is_whole
from tests.cut_by_hand import cut_by_hand, seals_of
from tests.random_stores import Maker
from tests.support import ALL_RIGHTS, UNKNOWN, Net

T, N = (0, 1, 0), (0, 1, 1)
NUMBERS = parse("select n from s0_t")


def start():
    """A table with a column of numbers; the two other members make rows without hearing of each other."""
    net = Net(3)
    net.change(0, [("table", "t"), ("column", T, "n", "integer")],
               publics=[("grant", member, ALL_RIGHTS) for member in (1, 2)])
    net.change(1, [("row", T), ("put", (1, 1, 0), N, 1)], capability=(0, 1, 0), heard={2: 0})
    net.change(2, [("row", T), ("put", (2, 1, 0), N, 2)], capability=(0, 1, 1), heard={1: 0})
    net.change(0, [("put", (1, 1, 0), N, 3)], heard={2: 0})
    return net


def all_counts(store, more=1):
    return itertools.product(*[range(store.count(member) + 1 + more) for member in range(store.members)])


def rows_of(store, tree):
    """The rows of an answer, or none if there is no such table."""
    try:
        return answer(tree, all_sources(store), [])[1]
    except UnknownTable:
        return []


def is_moment_by_the_words(store, counts):
    if len(counts) != store.members:
        return False
    for member in range(store.members):
        if counts[member] > store.count(member) or counts[member] < store.cut[member]:
            return False
    for changes in store.changes:
        for change in changes:
            if change.number <= counts[change.author]:
                if any(change.heard[member] > counts[member] for member in range(store.members)):
                    return False
    return True


class Moments(unittest.TestCase):
    def test_moments(self):
        store = start().store
        told = {counts for counts in all_counts(store) if is_moment(store, counts)}
        self.assertEqual(told, {(0, 0, 0), (1, 0, 0), (1, 1, 0), (1, 0, 1), (1, 1, 1), (2, 1, 0), (2, 1, 1)})

    def test_lists_and_tuples(self):
        store = start().store
        self.assertIs(is_moment(store, [1, 1, 0]), True)
        self.assertIs(is_moment(store, (1, 1, 0)), True)
        self.assertIs(is_moment(store, [0, 1, 0]), False)

    def test_what_is_no_moment(self):
        store = start().store
        for counts in ([], [0, 0], [0, 0, 0, 0], [-1, 0, 0], [3, 1, 1], [True, 0, 0], [1, False, 0], [0, 0, 1],
                       [1, 1, "0"], [1, 1, None]):
            self.assertIs(is_moment(store, counts), False, counts)

    def test_an_empty_store(self):
        self.assertIs(is_moment(Store(1), [0]), True)
        self.assertIs(is_moment(Store(1), [1]), False)
        self.assertEqual(chain(Store(2)), [[0, 0]])
        self.assertEqual(at(Store(2), (0, 0)).data(), Store(2).data())

    def test_least_and_greatest(self):
        self.assertEqual(meet([1, 2, 3], (3, 2, 1)), [1, 2, 1])
        self.assertEqual(join((1, 2, 3), [3, 2, 1]), [3, 2, 3])
        one, other = [1], [2]
        meet(one, other).append(9)
        join(one, other).append(9)
        self.assertEqual((one, other), ([1], [2]))

    def test_the_moment_of_a_change(self):
        store = start().store
        self.assertEqual(moment_of(store, (0, 1)), [1, 0, 0])
        self.assertEqual(moment_of(store, (1, 1)), [1, 1, 0])
        self.assertEqual(moment_of(store, (2, 1)), [1, 0, 1])
        self.assertEqual(moment_of(store, (0, 2)), [2, 1, 0])

    def test_the_chain(self):
        store = start().store
        told = chain(store)
        self.assertEqual(told, [[0, 0, 0], [1, 0, 0], [1, 1, 0], [1, 1, 1], [2, 1, 1]])
        told[0].append(1)
        told.clear()
        self.assertEqual(len(chain(store)), 5)


class At(unittest.TestCase):
    def refused(self, store, counts, error):
        with self.assertRaises(NoMoment) as caught:
            at(store, counts)
        self.assertIs(type(caught.exception), error, counts)

    def test_the_store_at_a_moment(self):
        net = start()
        before = net.store.data()
        told = at(net.store, [1, 1, 0])
        self.assertEqual(told.counts(), [1, 1, 0])
        self.assertEqual([change.name() for change in told.all_changes()], [(0, 1), (1, 1)])
        self.assertEqual(told.find((1, 1)).parts, net.store.find((1, 1)).parts)
        self.assertEqual(at(net.store, net.store.counts()).data(), before)
        told.changes[0].clear()
        told.cut[0] = 9
        told.kept[0].acts.append(1)
        told.capabilities.append(1)
        self.assertEqual(net.store.data(), before)

    def test_later_changes_of_the_store_have_no_effect(self):
        net = start()
        told = at(net.store, (2, 1, 1))
        before = told.data()
        net.change(0, [("row", T)])
        net.store.kept[1].acts.append(((0, 1, 0), ("table", "x")))
        self.assertEqual(told.data(), before)

    def test_counts_that_are_not_as_told(self):
        store = start().store
        for counts in ([], [0, 0], [0, 0, 0, 0], [3, 1, 1], [2, 2, 1], [2, 1, 2], [True, 0, 0], [1, True, 0],
                       [False, 0, 0], [1, "1", 0], [None, 0, 0], ("x",)):
            self.refused(store, counts, NoMoment)
        self.refused(store, [-1, 0, 0], ForgottenPast)
        for counts in ([0, 1, 0], [2, 0, 0], (0, 0, 1), (2, 0, 1)):
            self.refused(store, counts, NoMoment)

    def cut(self):
        """Cut behind the first two changes of the founder and the first one of member 1."""
        net = start()
        net.change(1, [("row", T)], capability=(0, 1, 0), heard={2: 1})
        net.seal(heard={2: 0, 1: 1})
        net.change(2, [("row", T)], capability=(0, 1, 1))
        return net.store, cut_by_hand(net.store, seals_of(net.store)[0])

    def test_a_store_with_a_cut(self):
        store, cut = self.cut()
        self.assertEqual((cut.cut, cut.counts()), ([3, 1, 0], [3, 2, 2]))
        self.assertEqual(chain(cut), [[3, 1, 0], [3, 1, 1], [3, 2, 1], [3, 2, 2]])
        self.refused(cut, [2, 1, 0], ForgottenPast)
        self.refused(cut, [3, 0, 0], ForgottenPast)
        self.refused(cut, [3, 0, 3], NoMoment)
        self.refused(cut, [0, 3, 0], NoMoment)
        self.refused(cut, [3, 0], NoMoment)
        self.refused(cut, [3, 0, True], NoMoment)
        self.refused(cut, [3, 0, 2], ForgottenPast)
        self.refused(cut, [3, 1, 2], NoMoment)
        for counts in all_counts(cut):
            self.assertIs(is_moment(cut, list(counts)), is_moment_by_the_words(cut, counts))
        told = at(cut, [3, 1, 0])
        self.assertEqual(told.data()[:3], cut.data()[:3])
        self.assertEqual(told.all_changes(), [])
        self.assertEqual(moment_of(cut, (2, 1)), [3, 1, 1])
        self.assertEqual(moment_of(store, (2, 1)), [1, 0, 1])

    def test_verdicts_are_those_of_the_moment(self):
        net = start()
        net.change(0, publics=[("revoke", (0, 1, 0))], heard={1: 0, 2: 0})
        self.assertIs(verdicts(net.store)[(1, 1)], False)
        net = Net(2)
        cap, = net.invite(1)
        net.change(1, [], capability=cap)
        net.change(0, publics=[("revoke", cap)], heard={1: 0})
        self.assertIs(verdicts(net.store)[(1, 1)], False)
        self.assertIs(verdicts(at(net.store, [1, 1]))[(1, 1)], True)
        self.assertIs(verdicts(at(net.store, [2, 1]))[(1, 1)], False)


class Histories(unittest.TestCase):
    def test_a_history(self):
        net = start()
        self.assertEqual(history(net.store, NUMBERS, []), [
            ((1, 1), [(1,)], []), ((2, 1), [(2,)], []), ((0, 2), [(3,)], [(1,)])])

    def test_a_question_without_sources(self):
        net = start()
        self.assertEqual(history(net.store, parse("select 5"), []), [(None, [(5,)], [])])
        self.assertEqual(history(net.store, parse("select $1"), ["x"]), [(None, [("x",)], [])])
        self.assertEqual(history(net.store, parse("select $1"), []), [])
        self.assertEqual(history(Store(2), parse("select 5"), []), [(None, [(5,)], [])])
        self.assertEqual(history(Store(2), NUMBERS, []), [])

    def test_a_question_that_is_refused_for_a_while(self):
        net = start()
        table = (0, 3, 0)
        net.change(0, [("table", "u"), ("row", table)])
        self.assertEqual(history(net.store, parse("select count(*) from s0_u"), []), [((0, 3), [(1,)], [])])
        name = net.change(0, [("undo", (0, 3))])
        told = history(net.store, parse("select count(*) from s0_u"), [])
        self.assertEqual(told, [((0, 3), [(1,)], []), (name, [], [(1,)])])
        self.assertEqual(history(net.store, parse("select nope from s0_u"), []), [])
        self.assertEqual(history(net.store, parse("select 1 + 'x'"), []), [])

    def test_the_order_of_the_rows(self):
        net = start()
        net.change(0, [("row", T), ("row", T), ("put", (0, 3, 0), N, 7), ("put", (0, 3, 1), N, 5)])
        told = history(net.store, parse("select n from s0_t order by n desc"), [])
        self.assertEqual(told[-1], ((0, 3), [(7,), (5,)], []))

    def test_limits(self):
        net = start()
        self.assertEqual(history(net.store, parse("select n from s0_t order by n desc limit 1"), []), [
            ((1, 1), [(1,)], []), ((2, 1), [(2,)], [(1,)]), ((0, 2), [(3,)], [(2,)])])

    def test_a_revocation_that_comes_earlier_in_the_chain(self):
        net = Net(2)
        cap, = net.invite(1)
        net.change(0, [("table", "t")])
        net.change(1, [("row", (0, 2, 0))], capability=cap)
        # Both had heard equally many, so the change of the founder comes first.
        net.change(0, publics=[("revoke", cap)], heard={1: 0})
        self.assertEqual(history(net.store, parse("select id from s0_t"), []), [])

    def test_a_revocation_that_comes_later_in_the_chain(self):
        net = Net(2)
        cap, = net.invite(1)
        net.change(0, [("table", "t")])
        net.change(1, [("row", (0, 2, 0))], capability=cap)
        for _ in range(3):
            net.change(0, [], heard={1: 0})
        name = net.change(0, publics=[("revoke", cap)], heard={1: 0})
        self.assertEqual(history(net.store, parse("select id from s0_t"), []), [
            ((1, 1), [("1.1.0",)], []), (name, [], [("1.1.0",)])])

    def test_between(self):
        net = start()
        store = net.store
        self.assertEqual(between(store, [0, 0, 0], [2, 1, 1], NUMBERS, []), ([(2,), (3,)], []))
        self.assertEqual(between(store, (2, 1, 1), (1, 1, 0), NUMBERS, []), ([(1,)], [(2,), (3,)]))
        self.assertEqual(between(store, (1, 0, 1), [1, 1, 0], NUMBERS, []), ([(1,)], [(2,)]))
        self.assertEqual(between(store, (1, 1, 1), (1, 1, 1), NUMBERS, []), ([], []))
        self.assertEqual(between(store, (0, 0, 0), (0, 0, 0), parse("select nope"), []), ([], []))
        self.assertEqual(between(store, (0, 0, 0), (1, 0, 0), parse("select $1"), [4]), ([], []))

    def test_between_asks_for_moments(self):
        store = start().store
        with self.assertRaises(NoMoment):
            between(store, [2, 0, 0], [0, 0, 0], NUMBERS, [])
        with self.assertRaises(NoMoment):
            between(store, [0, 0, 0], [0, 1, 0], NUMBERS, [])
        with self.assertRaises(ForgottenPast):
            between(store, [0, 0, -1], [0, 1, 0], NUMBERS, [])

    def test_spaces_that_are_not_known(self):
        net = start()
        net.change(0, parts={0: UNKNOWN})
        net.store.kept[2] = None
        self.assertEqual(history(net.store, NUMBERS, [])[-1], ((0, 2), [(3,)], [(1,)]))

    def test_a_history_after_a_cut(self):
        net = start()
        net.seal()
        net.change(1, [("row", T), ("put", (1, 2, 0), N, 9)], capability=(0, 1, 0))
        cut = cut_by_hand(net.store, seals_of(net.store)[0])
        self.assertEqual(cut.cut, [3, 1, 1])
        self.assertEqual(history(cut, NUMBERS, []), [(None, [(2,), (3,)], []), ((1, 2), [(9,)], [])])
        cut.kept[0] = None
        self.assertEqual(history(cut, NUMBERS, []), [])
        cut.kept[0] = Kept([], [], [])
        self.assertEqual(history(cut, NUMBERS, []), [])


class RandomStores(unittest.TestCase):
    def stores(self, seals=0.1, step=1, members=0):
        for seed in range(0, 60, step):
            maker = Maker(seed, members=members or 2 + seed % 2)
            maker.start()
            yield seed, maker.run(18, seals)

    def test_moments(self):
        for seed, store in self.stores():
            moments = []
            for counts in all_counts(store, 0):
                self.assertIs(is_moment(store, counts), is_moment_by_the_words(store, counts))
                if is_moment(store, counts):
                    moments.append(list(counts))
            chance = random.Random(seed)
            for _ in range(20):
                one, other = chance.choice(moments), chance.choice(moments)
                self.assertIn(meet(one, other), moments)
                self.assertIn(join(one, other), moments)
                self.assertTrue(is_whole(at(store, one)))
            for change in store.all_changes():
                having = [counts for counts in moments if counts[change.author] >= change.number]
                self.assertEqual(moment_of(store, change.name()), min(having, key=sum))

    def test_the_chain(self):
        for _, store in self.stores():
            moments = chain(store)
            self.assertEqual((moments[0], moments[-1]), (store.cut, store.counts()))
            self.assertEqual(len(moments), len(store.all_changes()) + 1)
            names = []
            for before, after in zip(moments, moments[1:]):
                self.assertTrue(is_moment(store, after))
                self.assertEqual(sum(after), sum(before) + 1)
                author = [member for member in range(store.members) if after[member] != before[member]][0]
                names.append((author, after[author]))
            self.assertEqual(names, [change.name() for change in store.all_changes()])

    def questions(self):
        return [parse(text) for text in ("select * from s0_a", "select count(*), max(c1) from s0_a group by c3",
                                         "select x.id from s1_a x join s0_a y on x.c1 = y.c1 order by 1 desc limit 2",
                                         "select id from s0_b union select id from s0_a")]

    def test_histories(self):
        for _, store in self.stores(step=3):
            for tree in self.questions():
                told = history(store, tree, [])
                rows = []
                for name, coming, going in told:
                    self.assertTrue(coming or going)
                    for row in going:
                        rows.remove(row)
                    rows += coming
                self.assertEqual(sorted(map(repr, rows)), sorted(map(repr, rows_of(store, tree))))
                places = [None] + [change.name() for change in store.all_changes()]
                found = [places.index(name) for name, _, _ in told]
                self.assertEqual(found, sorted(set(found)))

    def test_a_cut_changes_no_answer_at_a_moment(self):
        cuts = 0
        for _, store in self.stores(seals=0.3, step=2):
            for seal in seals_of(store):
                cut = cut_by_hand(store, seal)
                for counts in chain(cut):
                    old, new = at(store, counts), at(cut, counts)
                    told, later = verdicts(old), verdicts(new)
                    self.assertEqual({name: told[name] for name in later}, later)
                    sources, others = all_sources(old), all_sources(new)
                    self.assertEqual({name: (source.columns, source.kinds, source.rows) for name, source in sources.items()},
                                     {name: (source.columns, source.kinds, source.rows) for name, source in others.items()})
                    cuts += 1
        self.assertGreater(cuts, 50)

    def test_what_comes_between_two_moments(self):
        tree = self.questions()[0]
        for seed, store in self.stores(step=6):
            moments, chance = chain(store), random.Random(seed)
            for _ in range(4):
                first, second = chance.choice(moments), chance.choice(moments)
                old, new = rows_of(at(store, first), tree), rows_of(at(store, second), tree)
                self.assertEqual(between(store, first, second, tree, []), (came(old, new), went(old, new)))


if __name__ == "__main__":
    unittest.main()
