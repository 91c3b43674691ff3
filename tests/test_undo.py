"""Points 24 to 29: what an act knows, closed changes, undos, effective acts."""

import unittest

from kithwhole.store import Kept
from kithwhole.undo import effective_acts, is_closed, knows, taking_effect, undone_by
from tests.support import ALL_RIGHTS, BOTH, NO, READ, UNKNOWN, Net, make

TABLE = ("table", "t")


def cut_net():
    """Two changes of the founder and one of member 1 are cut away; a capability is kept."""
    net = Net(3)
    net.store.cut = [2, 1, 0]
    net.store.capabilities = [((0, 1, 0), None, 1, ALL_RIGHTS)]
    return net


class Knowing(unittest.TestCase):
    def test_the_past_is_known(self):
        net = Net(3)
        one, two = net.invite(1, 2)
        net.change(0, [TABLE])
        net.change(1, [TABLE], capability=one)
        net.change(2, [TABLE], capability=two, heard={1: 0})
        net.change(1, [TABLE], capability=one)
        self.assertIs(knows(net.store, (1, 1, 0), (0, 2, 0)), True)
        self.assertIs(knows(net.store, (0, 2, 0), (1, 1, 0)), False)
        self.assertIs(knows(net.store, (2, 1, 0), (1, 1, 0)), False)
        self.assertIs(knows(net.store, (1, 1, 0), (2, 1, 0)), False)
        self.assertIs(knows(net.store, (1, 2, 0), (2, 1, 0)), True)
        self.assertIs(knows(net.store, (1, 2, 0), (1, 1, 0)), True)
        self.assertIs(knows(net.store, (1, 1, 0), (1, 2, 0)), False)

    def test_the_same_change_with_a_lesser_index(self):
        net = Net(1)
        net.change(0, [TABLE, TABLE, TABLE])
        self.assertIs(knows(net.store, (0, 1, 1), (0, 1, 0)), True)
        self.assertIs(knows(net.store, (0, 1, 1), (0, 1, 1)), False)
        self.assertIs(knows(net.store, (0, 1, 1), (0, 1, 2)), False)

    def test_absent_changes(self):
        net = Net(2)
        net.change(0, [TABLE])
        self.assertIs(knows(net.store, (0, 1, 0), (0, 2, 0)), False)
        self.assertIs(knows(net.store, (0, 1, 0), (1, 1, 0)), False)
        self.assertIs(knows(net.store, (0, 1, 0), (4, 1, 0)), False)
        self.assertIs(knows(net.store, (0, 1, 0), (0, 0, 0)), False)

    def test_changes_that_are_cut_away(self):
        net = cut_net()
        net.change(1, [TABLE], capability=(0, 1, 0), heard={0: 0})
        # What is cut away is known to every act, whatever its change had heard.
        self.assertIs(knows(net.store, (1, 2, 0), (0, 2, 7)), True)
        self.assertIs(knows(net.store, (1, 2, 0), (1, 1, 0)), True)
        self.assertIs(knows(net.store, (1, 2, 0), (0, 3, 0)), False)
        self.assertIs(knows(net.store, (1, 2, 0), (2, 1, 0)), False)
        # A kept act knows no act.
        self.assertIs(knows(net.store, (0, 2, 1), (0, 2, 0)), False)
        self.assertIs(knows(net.store, (0, 2, 1), (0, 1, 0)), False)
        self.assertIs(knows(net.store, (0, 2, 1), (1, 2, 0)), False)


class Closed(unittest.TestCase):
    def setUp(self):
        self.net = Net(3)
        self.one, self.two = self.net.invite(1, 2)
        self.before = self.net.change(1, [TABLE], capability=self.one)
        self.seal = self.net.change(0, [TABLE], publics=[("seal",)])
        self.after = self.net.change(1, [TABLE], capability=self.one)

    def closed(self, name, later):
        return is_closed(self.net.store, self.net.allowed(), later + (0,), name)

    def test_what_a_seal_in_the_past_has_in_its_past(self):
        self.assertIs(self.closed(self.before, self.after), True)
        self.assertIs(self.closed((0, 1), self.after), True)

    def test_the_seal_itself(self):
        self.assertIs(self.closed(self.seal, self.after), True)

    def test_the_seal_must_be_in_the_past_of_the_act(self):
        self.assertIs(self.closed(self.before, self.seal), False)
        early = self.net.change(2, [TABLE], capability=self.two, heard={0: 1, 1: 1})
        self.assertIs(self.closed(self.before, early), False)

    def test_what_no_seal_has_in_its_past(self):
        later = self.net.change(1, [TABLE], capability=self.one)
        self.assertIs(self.closed(self.after, later), False)
        self.assertIs(self.closed((2, 1), later), False)
        self.assertIs(self.closed((0, 9), later), False)

    def test_a_seal_that_is_not_allowed(self):
        self.net.change(1, [TABLE], capability=self.one, publics=[("seal",)])
        later = self.net.change(2, [TABLE], capability=self.two)
        self.assertIs(self.closed(self.after, later), False)

    def test_what_is_cut_away(self):
        net = cut_net()
        net.change(1, [TABLE], capability=(0, 1, 0))
        for name in ((0, 1), (0, 2), (1, 1)):
            self.assertIs(is_closed(net.store, net.allowed(), (1, 2, 0), name), True)
        for name in ((0, 0), (0, 3), (2, 1), (5, 1)):
            self.assertIs(is_closed(net.store, net.allowed(), (1, 2, 0), name), False)


class Undoing(unittest.TestCase):
    def undone(self, net, name, space=0):
        return undone_by(net.store, net.allowed(), net.store.find(name), space)

    def test_in_the_order_of_the_acts_each_once(self):
        net = Net(2)
        capability, = net.invite(1)
        first = net.change(1, [TABLE], capability=capability)
        name = net.change(0, [("undo", first), TABLE, ("undo", (0, 1)), ("undo", first)])
        self.assertEqual(self.undone(net, name), [first, (0, 1)])

    def test_only_in_the_space_of_the_act(self):
        net = Net(1)
        first = net.change(0, [TABLE])
        name = net.change(0, parts={1: [("undo", first)]})
        self.assertEqual([self.undone(net, name, space) for space in range(4)], [[], [first], [], []])

    def test_the_own_name_and_what_was_not_heard_of(self):
        net = Net(2)
        capability, = net.invite(1)
        other = net.change(1, capability=capability)
        name = net.change(0, [("undo", (0, 2)), ("undo", other), ("undo", (0, 3)), ("undo", (5, 1)),
                              ("undo", (0, 0))], heard={1: 0})
        self.assertEqual(name, (0, 2))
        self.assertEqual(self.undone(net, name), [])

    def test_what_is_closed(self):
        net = Net(2)
        first = net.change(0, [TABLE])
        seal = net.change(0, [("undo", first)], publics=[("seal",)])
        self.assertEqual(self.undone(net, seal), [first])
        later = net.change(0, [("undo", first), ("undo", seal)])
        self.assertEqual(self.undone(net, later), [])
        last = net.change(0, [("undo", later)])
        self.assertEqual(self.undone(net, last), [later])

    def test_what_is_cut_away(self):
        net = cut_net()
        name = net.change(0, [("undo", (0, 1)), ("undo", (1, 1))])
        self.assertEqual(self.undone(net, name), [])

    def test_an_unknown_part(self):
        net = Net(1)
        first = net.change(0, [TABLE])
        name = net.change(0, parts={0: UNKNOWN, 1: [("undo", first)]})
        self.assertEqual(self.undone(net, name, 0), [])
        self.assertEqual(self.undone(net, name, 1), [first])

    def test_whether_or_not_the_change_counts(self):
        net = Net(2)
        first = net.change(0, [TABLE])
        name = net.change(1, [("undo", first)])
        self.assertEqual(self.undone(net, name), [first])
        self.assertEqual(taking_effect(net.store, net.allowed(), 0), {first: True, name: False})


class TakingEffect(unittest.TestCase):
    def effect(self, net, space=0):
        return taking_effect(net.store, net.allowed(), space)

    def test_an_undo_and_an_undo_of_it(self):
        net = Net(2)
        capability, = net.invite(1)
        first = net.change(1, [TABLE], capability=capability)
        second = net.change(0, [("undo", first)])
        self.assertEqual(self.effect(net), {(0, 1): True, first: False, second: True})
        third = net.change(1, [("undo", second)], capability=capability)
        self.assertEqual(self.effect(net), {(0, 1): True, first: True, second: False, third: True})
        fourth = net.change(0, [("undo", third)])
        self.assertEqual(self.effect(net), {
            (0, 1): True, first: False, second: True, third: False, fourth: True})

    def test_two_undos_of_one_change(self):
        net = Net(2)
        first = net.change(0, [TABLE])
        second = net.change(0, [("undo", first)])
        third = net.change(0, [("undo", first)])
        net.change(0, [("undo", second)])
        self.assertIs(self.effect(net)[first], False)
        net.change(0, [("undo", third)])
        self.assertIs(self.effect(net)[first], True)

    def test_each_space_for_itself(self):
        net = Net(1)
        first = net.change(0, parts={0: [TABLE], 1: [TABLE]})
        net.change(0, parts={1: [("undo", first)]})
        self.assertEqual([self.effect(net, space)[first] for space in range(4)], [True, False, True, True])

    def test_only_changes_that_count(self):
        net = Net(2)
        capability, = net.invite(1, rights=(READ, BOTH, NO, NO))
        first = net.change(0, parts={0: [TABLE], 1: [TABLE]})
        name = net.change(1, parts={0: [("undo", first)], 1: [("undo", first)]}, capability=capability)
        self.assertEqual([self.effect(net, space)[name] for space in range(4)], [False, True, False, False])
        self.assertEqual([self.effect(net, space)[first] for space in range(2)], [True, False])


class EffectiveActs(unittest.TestCase):
    def acts(self, net, space=0):
        return effective_acts(net.store, net.allowed(), space)

    def test_the_order_of_the_changes_and_of_the_indexes(self):
        net = Net(3)
        one, two = net.invite(1, 2)
        net.change(2, [("table", "c"), ("table", "d")], capability=two)
        net.change(1, [("table", "b")], capability=one, heard={2: 0})
        net.change(0, [("table", "e")])
        self.assertEqual(self.acts(net), [
            ((1, 1, 0), ("table", "b")), ((2, 1, 0), ("table", "c")), ((2, 1, 1), ("table", "d")),
            ((0, 2, 0), ("table", "e"))])

    def test_spots_count_the_acts_of_one_space(self):
        net = Net(1)
        net.change(0, parts={0: [("table", "a"), ("table", "b")], 2: [("table", "c"), ("row", (0, 1, 0))]})
        self.assertEqual(self.acts(net, 0), [((0, 1, 0), ("table", "a")), ((0, 1, 1), ("table", "b"))])
        self.assertEqual(self.acts(net, 2), [((0, 1, 0), ("table", "c")), ((0, 1, 1), ("row", (0, 1, 0)))])
        self.assertEqual(self.acts(net, 1), [])

    def test_only_of_changes_that_take_effect(self):
        net = Net(2)
        first = net.change(0, [TABLE])
        net.change(1, [TABLE])
        net.change(0, [("undo", first)])
        self.assertEqual(self.acts(net), [((0, 2, 0), ("undo", first))])

    def test_an_unknown_part(self):
        net = Net(1)
        net.change(0, parts={0: UNKNOWN, 1: [TABLE]})
        net.change(0, [("table", "u")])
        self.assertEqual(self.acts(net), [((0, 2, 0), ("table", "u"))])
        self.assertEqual(self.acts(net, 1), [((0, 1, 0), TABLE)])

    def test_kept_acts_come_first(self):
        net = cut_net()
        kept = [((1, 1, 0), ("table", "k")), ((0, 2, 0), ("table", "l"))]
        net.store.kept[0] = Kept(kept, [], [], [])
        net.change(0, [TABLE])
        self.assertEqual(self.acts(net), kept + [((0, 3, 0), TABLE)])
        self.acts(net).clear()
        self.assertEqual(net.store.kept[0].acts, kept)
        self.assertEqual(self.acts(net, 1), [])

    def test_what_is_kept_is_not_known(self):
        net = cut_net()
        net.store.kept[0] = None
        net.change(0, [TABLE])
        self.assertEqual(self.acts(net), [((0, 3, 0), TABLE)])

    def test_changes_that_had_not_heard_the_cut(self):
        net = cut_net()
        net.store.add(make(1, 2, [1, 1, 0], (0, 1, 0), (), {0: [TABLE]}))
        self.assertEqual(self.acts(net), [])


if __name__ == "__main__":
    unittest.main()
