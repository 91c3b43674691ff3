"""Points 97 to 100: packets that ask, packets that give, and taking them."""

import random
import unittest

from kithwhole.codes import write_capability, write_change, write_kept, write_number, write_optional
from kithwhole.cutting import cut_at, is_known, last_seal
from kithwhole.errors import DamagedPacket, UnfitPacket
from kithwhole.packets import asking, giving, taking
from kithwhole.rights import verdicts
from kithwhole.spaces import agree, joined, shown_to
from kithwhole.store import SPACES, Kept, Store, is_whole
from tests.cut_by_hand import seals_of
from tests.random_data import spoilt
from tests.random_stores import Maker
from tests.support import ALL_RIGHTS, BOTH, NO, UNKNOWN, Net, make

T = (0, 1, 0)
TABLE = ("table", "t")
EMPTY = Kept([], [], [], [])
SOME = Kept([(T, TABLE)], [], [], [])
OTHER = Kept([(T, ("table", "u"))], [], [], [])
TAIL = [1, 0, 0, 0, 0]
NOTHING = [0, 0, 0, 0]


def counted(things):
    return write_number(len(things)) + [byte for thing in things for byte in thing]


def gives(cut, capabilities=(), kept=(EMPTY,) * 4, changes=()):
    """A packet that gives, written by hand."""
    data = [2] + counted([write_number(number) for number in cut])
    data += counted([write_capability(entry) for entry in capabilities])
    for each in kept:
        data += write_optional(each, write_kept)
    return data + counted([write_change(change) for change in changes])


def asks(member, cut, counts, known=(1, 1, 1, 1), missing=((), (), (), ())):
    data = [1, member] + counted([write_number(number) for number in cut])
    data += counted([write_number(number) for number in counts]) + list(known)
    for names in missing:
        data += counted([write_number(author) + write_number(number) for author, number in names])
    return data


def sample():
    """Member 1 may read the spaces 0 and 2, member 2 none."""
    net = Net(3)
    net.change(0, parts={space: [TABLE] for space in range(4)}, publics=[("grant", 1, (BOTH, NO, BOTH, NO))])
    net.change(0, parts={1: [("row", T)]})
    net.change(1, parts={2: [("row", T)]}, capability=(0, 1, 0))
    return net.store


class Asking(unittest.TestCase):
    def test_the_example(self):
        self.assertEqual(asking(Store(3), 1), [1, 1, 3, 0, 0, 0, 3, 0, 0, 0, 1, 1, 1, 1, 0, 0, 0, 0])

    def test_all_that_it_has(self):
        store = Store(2)
        store.cut = [300, 2]
        store.kept = [None, EMPTY, None, SOME]
        store.add(make(0, 301, [300, 2], parts={0: UNKNOWN, 1: UNKNOWN}))
        store.add(make(0, 302, [301, 2], parts={1: UNKNOWN}))
        store.add(make(1, 3, [302, 2], parts={0: UNKNOWN, 3: UNKNOWN}))
        before = store.data()
        self.assertEqual(asking(store, 0), [1, 0, 2, 172, 2, 2, 2, 174, 2, 3, 0, 1, 0, 1,
                                            2, 0, 173, 2, 1, 3, 2, 0, 173, 2, 0, 174, 2, 0, 1, 1, 3])
        self.assertEqual(asking(store, 0), asks(0, [300, 2], [302, 3], (0, 1, 0, 1), (
            [(0, 301), (1, 3)], [(0, 301), (0, 302)], [], [(1, 3)])))
        self.assertEqual(store.data(), before)


class Giving(unittest.TestCase):
    def setUp(self):
        self.store = sample()
        self.first, self.second = self.store.changes[0]
        self.third = self.store.changes[1][0]

    def parts(self, change, *spaces):
        return change.with_parts([part if space in spaces else None for space, part in enumerate(change.parts)])

    def given(self, member, counts=(0, 0, 0), known=(1, 1, 1, 1), missing=((), (), (), ()), cut=(0, 0, 0)):
        before = self.store.data()
        packet = giving(self.store, asks(member, cut, counts, known, missing))
        self.assertEqual(self.store.data(), before)
        return packet

    def test_all_changes_with_the_parts_that_may_be_read(self):
        self.assertEqual(self.given(0), gives([0] * 3, kept=[None] * 4, changes=[self.first, self.second, self.third]))
        self.assertEqual(self.given(1), gives([0] * 3, kept=[None] * 4, changes=[
            self.parts(each, 0, 2) for each in (self.first, self.second, self.third)]))
        self.assertEqual(self.given(2), gives([0] * 3, kept=[None] * 4, changes=[
            self.parts(each) for each in (self.first, self.second, self.third)]))

    def test_an_empty_packet(self):
        self.assertEqual(self.given(1, (2, 1, 0)), [2, 3, 0, 0, 0, 0] + NOTHING + [0])
        self.assertEqual(giving(Store(1), asking(Store(1), 0)), [2, 1, 0, 0] + NOTHING + [0])

    def test_only_the_changes_that_the_other_does_not_have(self):
        self.assertEqual(self.given(0, (1, 1, 0)), gives([0] * 3, kept=[None] * 4, changes=[self.second]))
        self.assertEqual(self.given(0, (2, 0, 0)), gives([0] * 3, kept=[None] * 4, changes=[self.third]))
        self.assertEqual(self.given(0, (300, 9, 9)), gives([0] * 3, kept=[None] * 4))

    def test_parts_that_were_told_as_not_known(self):
        missing = ([(0, 1)], [(0, 1), (0, 2)], [(1, 1), (0, 1)], [])
        self.assertEqual(self.given(0, (2, 1, 0), missing=missing), gives([0] * 3, kept=[None] * 4, changes=[
            self.parts(self.first, 0, 1, 2), self.parts(self.second, 1), self.parts(self.third, 2)]))
        self.assertEqual(self.given(1, (2, 1, 0), missing=missing), gives([0] * 3, kept=[None] * 4, changes=[
            self.parts(self.first, 0, 2), self.parts(self.third, 2)]))
        self.assertEqual(self.given(2, (2, 1, 0), missing=missing), gives([0] * 3, kept=[None] * 4))

    def test_a_change_that_is_not_had_is_given_with_all_its_parts(self):
        self.assertEqual(self.given(1, (2, 0, 0), missing=([(0, 2)], [], [(0, 1)], [])), gives(
            [0] * 3, kept=[None] * 4,
            changes=[self.parts(self.first, 2), self.parts(self.second, 0), self.parts(self.third, 0, 2)]))

    def test_parts_that_are_not_known(self):
        self.store.changes[0][0] = self.parts(self.first, 2)
        self.assertEqual(self.given(0, (2, 1, 0), missing=([(0, 1)], [(0, 1)], [], [])), gives([0] * 3, kept=[None] * 4))
        self.assertEqual(self.given(0, (0, 1, 0)),
                         gives([0] * 3, kept=[None] * 4, changes=[self.parts(self.first, 2), self.second]))

    def test_names_in_any_order_twice_and_of_what_there_is_not(self):
        missing = ([(1, 1), (0, 2), (0, 1), (0, 2), (0, 1)], [(0, 3), (0, 0), (1, 0), (9, 9), (3, 1)],
                   [(0, 300), (10 ** 20, 10 ** 20)], [(2, 1)])
        self.assertEqual(self.given(0, (2, 1, 0), missing=missing), gives([0] * 3, kept=[None] * 4, changes=[
            self.parts(self.first, 0), self.parts(self.second, 0), self.parts(self.third, 0)]))

    def test_an_empty_part_is_given(self):
        packet = self.given(1, (2, 1, 0), missing=([(1, 1)], [], [], []))
        self.assertEqual(packet, gives([0] * 3, kept=[None] * 4, changes=[self.parts(self.third, 0)]))

    def test_what_is_kept(self):
        self.store = Store(3)
        self.store.cut = [2, 1, 0]
        self.store.capabilities = [((0, 1, 0), None, 1, (BOTH, NO, BOTH, NO))]
        self.store.kept = [SOME, OTHER, None, EMPTY]
        entries = self.store.capabilities
        for cut, known, member, kept in (
            ([2, 1, 0], (1, 1, 1, 1), 0, [None] * 4), ([2, 1, 0], (0, 0, 0, 0), 0, [SOME, OTHER, None, EMPTY]),
            ([2, 1, 0], (1, 0, 0, 1), 0, [None, OTHER, None, None]), ([2, 1, 0], (0, 0, 0, 0), 1, [SOME, None, None, None]),
            ([2, 1, 0], (0, 0, 0, 0), 2, [None] * 4), ([1, 1, 0], (1, 1, 1, 1), 0, [SOME, OTHER, None, EMPTY]),
            ([1, 1, 0], (1, 1, 1, 1), 1, [SOME, None, None, None]), ([1, 9, 9], (1, 1, 1, 1), 1, [SOME, None, None, None]),
            ([2, 0, 0], (1, 1, 1, 1), 0, [None] * 4), ([3, 1, 0], (1, 1, 1, 1), 0, [None] * 4),
            ([3, 1, 0], (0, 1, 1, 1), 0, [SOME, None, None, None]),
        ):
            packet = self.given(member, (2, 1, 0), known, cut=cut)
            self.assertEqual(packet, gives([2, 1, 0], entries, kept), (cut, known, member))

    def test_the_changes_stand_behind_what_is_kept(self):
        self.store.cut = [0, 0, 0]
        packet = self.given(1, (1, 1, 0), (0, 0, 0, 0))
        self.assertEqual(packet, gives([0] * 3, kept=[EMPTY, None, EMPTY, None], changes=[self.parts(self.second, 0, 2)]))

    def damaged(self, packet, store=None):
        with self.assertRaises(DamagedPacket, msg=packet):
            giving(store or self.store, packet)

    def test_damaged_packets(self):
        right = asking(self.store, 1)
        giving(self.store, right)
        self.damaged(right + [0])
        for end in range(len(right)):
            self.damaged(right[:end])
        for packet in ([2] + right[1:], [0] + right[1:], giving(self.store, right), asks(3, [0] * 3, [0] * 3),
                       asks(1, [0] * 2, [0] * 3), asks(1, [0] * 4, [0] * 3), asks(1, [0] * 3, [0] * 2),
                       asks(1, [0] * 3, [0] * 4), asks(1, [], []), asks(1, [0] * 3, [0] * 3, (1, 2, 1, 1)),
                       asks(200, [0] * 3, [0] * 3)):
            self.damaged(packet)
        self.damaged(asking(Store(2), 1))


class Case(unittest.TestCase):
    def takes(self, store, packet, expected=None):
        """The store after taking the packet; taking it again changes nothing."""
        before = store.data()
        given = list(packet)
        later = taking(store, packet)
        self.assertEqual(store.data(), before)
        self.assertEqual(packet, given)
        self.assertEqual(taking(later, packet).data(), later.data())
        if expected is not None:
            self.assertEqual(later.data(), expected.data())
        self.assertIs(is_whole(later), True)
        return later

    def unfit(self, store, *packets):
        before = store.data()
        for packet in packets:
            with self.assertRaises(UnfitPacket, msg=packet):
                taking(store, packet)
            self.assertEqual(store.data(), before)


class Damaged(Case):
    def test_what_is_no_packet_that_gives(self):
        store = sample()
        right = giving(store, asking(Store(3), 0))
        self.takes(Store(3), right, store)
        for packet in (right + [0], [1] + right[1:], [3] + right[1:], [], asking(store, 0)):
            with self.assertRaises(DamagedPacket):
                taking(Store(3), packet)
        for end in range(len(right)):
            with self.assertRaises(DamagedPacket):
                taking(Store(3), right[:end])

    def test_a_damaged_packet_is_damaged_before_it_is_unfit(self):
        packet = gives([0, 0], changes=[make(0, 7, [6, 0])])
        self.unfit(Store(2), packet)
        with self.assertRaises(DamagedPacket):
            taking(Store(2), packet + [0])
        with self.assertRaises(DamagedPacket):
            taking(Store(3), packet[:-1])


class SameCut(Case):
    def test_the_cut_has_one_number_for_each_member(self):
        self.takes(Store(2), gives([0, 0]), Store(2))
        self.unfit(Store(2), gives([0]), gives([0, 0, 0]), gives([]), gives([1]), gives([0] * 9))

    def cut_store(self, kept=(EMPTY,) * 4):
        store = Store(2)
        store.cut = [2, 1]
        store.capabilities = [((0, 1, 0), None, 1, ALL_RIGHTS)]
        store.kept = list(kept)
        return store

    def test_the_cuts_and_the_capabilities_must_be_equal(self):
        store = self.cut_store()
        entries = store.capabilities
        self.takes(store, gives([2, 1], entries), store)
        self.unfit(store, gives([2, 0], entries), gives([2, 2], entries), gives([2, 1]), gives([2, 1], entries * 2),
                   gives([2, 1], [((0, 1, 0), None, 1, (BOTH,) * 4)]), gives([2, 1], [((0, 1, 1), None, 1, ALL_RIGHTS)]))
        self.unfit(Store(2), gives([0, 0], entries), gives([0, 1]))

    def test_what_is_kept_must_be_equal_where_both_know_it(self):
        store = self.cut_store([SOME, EMPTY, None, SOME])
        entries = store.capabilities
        self.takes(store, gives([2, 1], entries, [SOME, None, None, SOME]), store)
        for kept in ([OTHER, None, None, None], [EMPTY, None, None, None], [None, SOME, None, None],
                     [SOME, EMPTY, OTHER, OTHER]):
            self.unfit(store, gives([2, 1], entries, kept))

    def test_a_boolean_is_no_integer(self):
        puts = [Kept([(T, ("put", T, T, value))], [], [], []) for value in (True, 1)]
        store = self.cut_store([puts[0], EMPTY, EMPTY, EMPTY])
        self.takes(store, gives([2, 1], store.capabilities, [puts[0], None, None, None]), store)
        self.unfit(store, gives([2, 1], store.capabilities, [puts[1], None, None, None]))
        store = Store(2)
        store.add(make(0, 1, [0, 0], parts={0: [("put", T, T, 0)]}))
        self.unfit(store, gives([0, 0], changes=[make(0, 1, [0, 0], parts={0: [("put", T, T, False)]})]))

    def test_what_was_not_known_is_added(self):
        store = self.cut_store([SOME, None, None, None])
        later = self.takes(store, gives([2, 1], store.capabilities, [None, OTHER, EMPTY, None]))
        self.assertEqual([kept and kept.data() for kept in later.kept], [SOME.data(), OTHER.data(), EMPTY.data(), None])
        self.assertEqual(store.kept[1:], [None] * 3)

    def test_an_earlier_cut_is_ignored(self):
        store = self.cut_store([SOME, None, EMPTY, EMPTY])
        for packet in (gives([1, 9]), gives([0, 0], [((0, 1, 0), None, 0, ALL_RIGHTS)], [OTHER, OTHER, OTHER, None]),
                       gives([1, 1], (), [None] * 4)):
            self.takes(store, packet, store)
        later = self.takes(store, gives([1, 1], (), [None] * 4, [make(0, 3, [2, 1])]))
        self.assertEqual(later.counts(), [3, 1])


class LaterCut(Case):
    def store(self):
        """A table, then a seal that has heard all but the last change of member 1."""
        net = Net(2)
        net.change(0, parts={0: [TABLE], 1: [TABLE]}, publics=[("grant", 1, ALL_RIGHTS)])
        net.change(1, parts={0: [("row", T)]}, capability=(0, 1, 0))
        net.change(1, parts={1: [("row", T)]}, capability=(0, 1, 0))
        net.seal(heard={1: 1})
        net.change(0, parts={0: [("row", T)]})
        return net.store

    ENTRIES = [((0, 1, 0), None, 1, ALL_RIGHTS)]

    def test_the_changes_that_are_cut_away_are_removed(self):
        store = self.store()
        expected = cut_at(store, last_seal(store))
        later = self.takes(store, gives([2, 1], self.ENTRIES, [None] * 4), expected)
        self.assertEqual([[change.name() for change in changes] for changes in later.changes], [[(0, 3)], [(1, 2)]])
        self.assertEqual(later.capabilities, self.ENTRIES)

    def test_what_is_kept_is_that_of_the_packet(self):
        later = self.takes(self.store(), gives([2, 1], [], [OTHER, EMPTY, None, None]))
        self.assertEqual((later.cut, later.capabilities), ([2, 1], []))
        self.assertEqual([kept.data() for kept in later.kept], [OTHER.data(), EMPTY.data(), EMPTY.data(), EMPTY.data()])

    def test_what_the_own_store_makes_of_it(self):
        store = self.store()
        store.changes[0][0] = store.changes[0][0].with_parts([None, (TABLE,), (), ()])
        store.kept[2] = None
        later = self.takes(store, gives([2, 1], self.ENTRIES, [None] * 4))
        self.assertEqual([kept and kept.data() for kept in later.kept],
                         [None, cut_at(self.store(), last_seal(self.store())).kept[1].data(), None, EMPTY.data()])

    def test_a_store_with_fewer_changes_than_the_cut_knows_only_what_the_packet_tells(self):
        store = self.store()
        store.changes[1] = []
        store.changes[0] = store.changes[0][:1]
        later = self.takes(store, gives([2, 1], self.ENTRIES, [SOME, None, None, None]))
        self.assertEqual([kept and kept.data() for kept in later.kept], [SOME.data(), None, None, None])
        self.assertEqual((later.counts(), later.changes), ([2, 1], [[], []]))
        one_less = self.store()
        one_less.changes[1] = []
        one_less.changes[0] = one_less.changes[0][:2]
        self.assertEqual(self.takes(one_less, gives([2, 1], self.ENTRIES, [None] * 4)).kept, [None] * 4)
        just = self.store()
        just.changes[1] = just.changes[1][:1]
        just.changes[0] = just.changes[0][:2]
        self.assertNotIn(None, self.takes(just, gives([2, 1], self.ENTRIES, [None] * 4)).kept)

    def test_each_entry_is_at_least_the_own_one(self):
        store = cut_at(self.store(), last_seal(self.store()))
        self.takes(store, gives([3, 1], self.ENTRIES, [None] * 4))
        self.takes(store, gives([3, 2], self.ENTRIES, [None] * 4))
        self.unfit(store, gives([3, 0], self.ENTRIES, [None] * 4), gives([300, 0], self.ENTRIES, [EMPTY] * 4))

    def test_no_condition_asks_for_the_kept_capabilities(self):
        later = self.takes(Store(2), gives([5, 0], self.ENTRIES * 2, [EMPTY] * 4))
        self.assertEqual(later.capabilities, self.ENTRIES * 2)

    def test_changes_behind_the_later_cut(self):
        change = make(0, 6, [5, 3], parts={0: [("row", T)]})
        later = self.takes(Store(2), gives([5, 3], self.ENTRIES, [SOME] * 4, [change]))
        self.assertEqual((later.cut, later.counts()), ([5, 3], [6, 3]))
        self.unfit(Store(2), gives([5, 3], self.ENTRIES, [SOME] * 4, [make(0, 7, [6, 3])]))


class Changes(Case):
    def setUp(self):
        self.store = Store(2)
        self.store.add(make(0, 1, [0, 0], parts={0: [TABLE], 1: UNKNOWN}))
        self.store.add(make(1, 1, [1, 0]))

    def one(self, change, **others):
        return gives([0, 0], changes=[change], **others)

    def test_the_next_change_of_its_author(self):
        later = self.takes(self.store, self.one(make(0, 2, [1, 1])))
        self.assertEqual(later.counts(), [2, 1])
        self.unfit(self.store, self.one(make(0, 3, [2, 1])), self.one(make(1, 3, [1, 2])))

    def test_several_changes_one_after_another(self):
        two, three, other = make(0, 2, [1, 1]), make(0, 3, [2, 1]), make(1, 2, [3, 1])
        for changes in ([two, three, other], [two, other, three], [other, two, three], [two, two, three, three, other]):
            self.assertEqual(self.takes(self.store, gives([0, 0], changes=changes)).counts(), [3, 2])
        self.unfit(self.store, gives([0, 0], changes=[three, two, other]), gives([0, 0], changes=[two, other]))

    def test_the_author_must_be_a_member_and_the_number_at_least_1(self):
        for change in (make(2, 1, [0, 0]), make(300, 1, [0, 0]), make(0, 0, [0, 0]), make(1, 0, [0, 0])):
            self.unfit(self.store, self.one(change))

    def test_a_change_that_is_cut_away_is_ignored(self):
        store = Store(2)
        store.cut = [5, 2]
        changes = [make(0, 1, [0, 9]), make(0, 5, [7, 7, 7]), make(1, 2, [])]
        self.takes(store, gives([5, 2], changes=changes), store)
        self.unfit(store, gives([5, 2], changes=changes + [make(0, 0, [0, 0])]), gives([5, 2], changes=[make(2, 1, [0, 0])]))
        # Also what the packet itself cuts away.
        self.assertEqual(self.takes(Store(2), gives([5, 2], changes=changes)).counts(), [5, 2])

    def test_a_known_change_must_have_the_same_header(self):
        self.takes(self.store, self.one(make(0, 1, [0, 0], parts={0: [TABLE]}).with_parts([None] * 4)), self.store)
        for change in (make(0, 1, [0, 1]), make(0, 1, [0, 0], (0, 1, 0)), make(0, 1, [0, 0], None, [("seal",)]),
                       make(0, 1, [0]), make(0, 1, [0, 0, 0])):
            self.unfit(self.store, self.one(change.with_parts([None] * 4)))

    def test_known_parts_must_be_equal(self):
        right = make(0, 1, [0, 0], parts={0: [TABLE], 1: UNKNOWN})
        self.takes(self.store, self.one(right), self.store)
        for parts in ({0: [("table", "u")]}, {0: []}, {0: [TABLE, TABLE]}, {0: [TABLE], 2: [TABLE]}):
            self.unfit(self.store, self.one(make(0, 1, [0, 0], parts={1: UNKNOWN, **parts})))

    def test_parts_that_were_not_known_are_added(self):
        later = self.takes(self.store, self.one(make(0, 1, [0, 0], parts={0: UNKNOWN, 1: [("row", T)]})))
        self.assertEqual(later.changes[0][0].parts, ((TABLE,), (("row", T),), (), ()))
        self.assertIsNone(self.store.changes[0][0].parts[1])
        again = gives([0, 0], changes=[make(0, 2, [1, 0], parts={0: UNKNOWN, 1: [TABLE]}),
                                       make(0, 2, [1, 0], parts={1: [TABLE]})])
        self.assertEqual(self.takes(self.store, again).changes[0][1].parts, ((), (TABLE,), (), ()))

    def test_parts_behind_a_cut(self):
        store = Store(2)
        store.cut = [3, 0]
        store.add(make(0, 4, [3, 0], parts={0: UNKNOWN}))
        store.add(make(0, 5, [4, 0], parts={0: UNKNOWN}))
        later = self.takes(store, gives([3, 0], changes=[make(0, 5, [4, 0], parts={0: [TABLE]})]))
        self.assertEqual([change.parts[0] for change in later.changes[0]], [None, (TABLE,)])

    def test_the_store_must_be_whole_afterwards(self):
        for change in (make(0, 2, [1, 2]), make(0, 2, [0, 1]), make(0, 2, [1]), make(0, 2, [1, 1, 0]), make(0, 2, [2, 1])):
            self.unfit(self.store, self.one(change))
        # What member 1 had heard is more than this change has heard of member 0.
        self.store.add(make(0, 2, [1, 0]))
        self.store.add(make(1, 2, [2, 1]))
        self.unfit(self.store, self.one(make(1, 3, [1, 2])))
        self.takes(self.store, self.one(make(1, 3, [2, 2])))

    def test_all_of_it_or_nothing(self):
        self.unfit(self.store, gives([0, 0], changes=[make(0, 2, [1, 1]), make(1, 2, [9, 1])]))
        self.assertEqual(self.store.counts(), [1, 1])


class Random(Case):
    def networks(self):
        """Pairs of stores of one network: the founder's and what another member has heard of it."""
        for seed in range(70):
            chance = random.Random(seed)
            maker = Maker(seed, members=3, spaces=(0, 1, 2), rude=0.05)
            maker.publicity = 0.4
            maker.start()
            full = maker.run(35, 0.2)
            some = full.copy()
            for _ in range(chance.randrange(20)):
                author = chance.randrange(3)
                if some.changes[author]:
                    last = some.changes[author].pop()
                    if not is_whole(some):
                        some.changes[author].append(last)
            member = chance.choice([1, 2])
            yield chance, full, shown_to(some, member), member

    def test_the_answer_makes_the_join(self):
        """Point 100, both ways; the packet to the founder and the one to another member."""
        for _, full, some, member in self.networks():
            packet = giving(full, asking(some, member))
            self.takes(some, packet, joined(some, shown_to(full, member)))
            self.assertIs(agree(full, some), True)
            self.takes(full, giving(some, asking(full, 0)), joined(full, shown_to(some, 0)))

    def test_the_join_behind_the_same_cut(self):
        compared = 0
        for _, full, some, member in self.networks():
            seals = [seal for seal in seals_of(full) if some.find(seal.name()) is not None]
            if not seals or not verdicts(some)[seals[-1].name()]:
                continue
            full, some = cut_at(full, seals[-1]), cut_at(some, seals[-1])
            self.takes(some, giving(full, asking(some, member)), joined(some, shown_to(full, member)))
            compared += 1
        self.assertGreater(compared, 20)

    def test_a_later_cut(self):
        compared = 0
        for _, full, some, member in self.networks():
            for seal in seals_of(full)[-1:]:
                cut = cut_at(full, seal)
                later = self.takes(some, giving(cut, asking(some, member)))
                self.assertEqual((later.cut, later.capabilities), (cut.cut, cut.capabilities))
                for space in range(SPACES):
                    if later.kept[space] is not None:
                        self.assertEqual(later.kept[space].data(), cut.kept[space].data())
                # The other way round it is ignored.
                back = self.takes(cut, giving(some, asking(cut, 0)))
                self.assertEqual(back.data(), cut.data())
                compared += any(is_known(later, space) for space in range(SPACES))
        self.assertGreater(compared, 20)

    def test_spoilt_packets(self):
        told = {"DamagedPacket": 0, "UnfitPacket": 0, "taken": 0}
        for chance, full, some, member in self.networks():
            packet = giving(full, asking(some, member))
            for _ in range(15):
                before = some.data()
                try:
                    later = taking(some, spoilt(chance, packet))
                    self.assertIs(is_whole(later), True)
                    told["taken"] += 1
                except (DamagedPacket, UnfitPacket) as error:
                    told[type(error).__name__] += 1
                self.assertEqual(some.data(), before)
        self.assertGreater(min(told.values()), 10)


if __name__ == "__main__":
    unittest.main()
