"""Points 3, 11 and 12: stores, copies, and when a store is whole."""

import unittest

from kithwhole.store import SPACES, Kept, Store, is_whole
from tests.support import Net, make

CELL = ((0, 1, 2), (0, 1, 1))
KEPT = Kept([((0, 1, 0), ("table", "t"))], [(CELL, 5)], [(CELL, [((0, 1, 3, 0), "a")])], [(CELL + (1,), 4)])
KEPT_DATA = (
    (((0, 1, 0), ("table", "t")),),
    ((CELL, 5),),
    ((CELL, (((0, 1, 3, 0), "a"),)),),
    ((CELL + (1,), 4),),
)
RIGHTS = ((True, True, True),) * 4


def cut_store():
    """Two changes of the founder are cut away, one of each member stands behind them."""
    store = Store(2)
    store.cut = [2, 0]
    store.capabilities = [((0, 1, 0), None, 1, RIGHTS)]
    store.kept[1] = Kept(KEPT.acts, KEPT.sums, KEPT.texts, KEPT.shares)
    store.kept[2] = None
    store.add(make(0, 3, [2, 0]))
    store.add(make(1, 1, [2, 0], (0, 1, 0), (), {0: [("table", "u")], 3: "unknown"}))
    return store


class KeptThings(unittest.TestCase):
    def test_there_are_four_spaces(self):
        self.assertEqual(SPACES, 4)

    def test_attributes_are_lists(self):
        kept = Kept((), (), ())
        self.assertEqual((kept.acts, kept.sums, kept.texts, kept.shares), ([], [], [], []))
        self.assertEqual(kept.data(), ((), (), (), ()))
        self.assertEqual(KEPT.texts, [(CELL, [((0, 1, 3, 0), "a")])])

    def test_data_is_a_nested_tuple(self):
        self.assertEqual(KEPT.data(), KEPT_DATA)

    def test_arguments_that_change_later_have_no_effect(self):
        acts, sums, signs, shares = [((0, 1, 0), ("table", "t"))], [(CELL, 5)], [((0, 1, 3, 0), "a")], []
        texts = [(CELL, signs)]
        kept = Kept(acts, sums, texts, shares)
        before = kept.data()
        acts.clear()
        sums.append((CELL, 6))
        signs.clear()
        texts.clear()
        shares.append((CELL + (0,), 1))
        self.assertEqual(kept.data(), before)


class Stores(unittest.TestCase):
    def test_an_empty_store(self):
        store = Store(3)
        self.assertEqual(store.members, 3)
        self.assertEqual(store.cut, [0, 0, 0])
        self.assertEqual(store.capabilities, [])
        self.assertEqual([kept.data() for kept in store.kept], [((), (), (), ())] * 4)
        self.assertEqual(store.changes, [[], [], []])
        self.assertEqual(store.counts(), [0, 0, 0])
        self.assertEqual(store.all_changes(), [])
        self.assertEqual(store.data(), ((0, 0, 0), (), (((), (), (), ()),) * 4, ((), (), ())))
        self.assertIs(is_whole(store), True)

    def test_kept_spaces_are_not_shared(self):
        store = Store(1)
        store.kept[0].acts.append(((0, 1, 0), ("table", "t")))
        self.assertEqual(store.kept[1].acts, [])
        self.assertEqual(Store(1).kept[0].acts, [])
        store.changes[0].append(make(0, 1, [0]))
        self.assertEqual(Store(1).changes, [[]])

    def test_counts_include_what_is_cut_away(self):
        store = cut_store()
        self.assertEqual([store.count(0), store.count(1)], [3, 1])
        self.assertEqual(store.counts(), [3, 1])
        store.counts().append(9)
        self.assertEqual(store.counts(), [3, 1])

    def test_add_appends_without_a_check(self):
        store = Store(2)
        change = make(1, 1, [7, 7, 7], (0, 9, 9))
        self.assertIsNone(store.add(change))
        self.assertEqual(store.changes[1], [change])
        self.assertEqual(store.counts(), [0, 1])

    def test_find(self):
        store = cut_store()
        self.assertIs(store.find((0, 3)), store.changes[0][0])
        self.assertIs(store.find((1, 1)), store.changes[1][0])
        for name in ((0, 1), (0, 2), (0, 4), (1, 0), (1, -1), (1, 2), (0, 0), (2, 1), (-1, 1), (-2, 3), (9, 1)):
            self.assertIsNone(store.find(name), name)

    def test_has(self):
        store = cut_store()
        for name in ((0, 1), (0, 2), (0, 3), (1, 1)):
            self.assertIs(store.has(name), True)
        for name in ((0, 0), (0, -5), (1, 0), (0, 4), (1, 2), (2, 1), (-1, 1), (-1, 0), (-2, 1), (7, 7)):
            self.assertIs(store.has(name), False)

    def test_all_changes_stand_in_their_order(self):
        store = Store(3)
        for change in (make(0, 1, [0, 0, 0]), make(0, 2, [1, 0, 1]), make(1, 1, [0, 0, 0]), make(2, 1, [1, 0, 0])):
            store.add(change)
        names = [change.name() for change in store.all_changes()]
        self.assertEqual(names, [(0, 1), (1, 1), (2, 1), (0, 2)])
        store.all_changes().clear()
        self.assertEqual(len(store.all_changes()), 4)

    def test_data(self):
        store = cut_store()
        empty = ((), (), (), ())
        self.assertEqual(store.data(), (
            (2, 0),
            (((0, 1, 0), None, 1, RIGHTS),),
            (empty, KEPT_DATA, None, empty),
            (
                ((0, 3, (2, 0), None, (), ((), (), (), ())),),
                ((1, 1, (2, 0), (0, 1, 0), (), ((("table", "u"),), (), (), None)),),
            ),
        ))

    def test_data_is_not_touched_by_later_changes(self):
        store = cut_store()
        data = store.data()
        store.add(make(0, 4, [3, 1]))
        store.cut[0] = 1
        store.kept[1].acts.clear()
        store.kept[0] = None
        self.assertEqual(data, cut_store().data())
        self.assertNotEqual(store.data(), data)


class Copies(unittest.TestCase):
    def test_a_copy_is_equal(self):
        store = cut_store()
        twin = store.copy()
        self.assertEqual(twin.data(), store.data())
        self.assertEqual(twin.members, 2)
        self.assertIsInstance(twin, Store)

    def modified(self, store):
        store.cut[0] = 1
        store.capabilities.clear()
        store.kept[1].acts.append(((0, 1, 5), ("table", "z")))
        store.kept[1].sums.clear()
        store.kept[1].texts[0][1].append(((0, 1, 3, 1), "b"))
        store.kept[1].shares.clear()
        store.kept[3] = None
        store.add(make(1, 2, [2, 1]))
        store.changes[0].clear()

    def test_a_changed_copy_leaves_the_store_alone(self):
        store = cut_store()
        self.modified(store.copy())
        self.assertEqual(store.data(), cut_store().data())

    def test_a_changed_store_leaves_the_copy_alone(self):
        store = cut_store()
        twin = store.copy()
        self.modified(store)
        self.assertEqual(twin.data(), cut_store().data())


class Whole(unittest.TestCase):
    def with_change(self, change):
        net = Net(3)
        net.change(0)
        net.change(1)
        net.change(0)
        self.assertTrue(is_whole(net.store))
        net.store.add(change)
        return is_whole(net.store)

    def test_what_is_whole(self):
        self.assertIs(self.with_change(make(2, 1, [2, 1, 0])), True)
        self.assertIs(self.with_change(make(2, 1, [0, 0, 0])), True)
        self.assertIs(self.with_change(make(2, 1, [1, 1, 0])), True)

    def test_another_number_of_entries(self):
        self.assertIs(self.with_change(make(2, 1, [0, 0, 0, 0])), False)
        self.assertIs(self.with_change(make(0, 3, [2, 1])), False)
        self.assertIs(self.with_change(make(2, 1, [])), False)

    def test_the_own_entry(self):
        self.assertIs(self.with_change(make(2, 1, [2, 1, 1])), False)
        self.assertIs(self.with_change(make(0, 3, [1, 1, 0])), False)
        self.assertIs(self.with_change(make(0, 3, [2, 1, 0])), True)

    def test_more_than_there_is(self):
        self.assertIs(self.with_change(make(2, 1, [3, 1, 0])), False)
        self.assertIs(self.with_change(make(2, 1, [2, 2, 0])), False)

    def test_what_is_cut_away_is_counted(self):
        store = Store(2)
        store.cut = [0, 3]
        store.add(make(0, 1, [0, 3]))
        self.assertIs(is_whole(store), True)
        store.add(make(0, 2, [1, 4]))
        self.assertIs(is_whole(store), False)

    def test_less_than_the_last_change_that_was_heard_of(self):
        # (0, 2) had heard of (1, 1), so whoever has heard of (0, 2) has heard of (1, 1).
        self.assertIs(self.with_change(make(2, 1, [2, 0, 0])), False)
        # (0, 2) is the last one that (0, 3) had heard of its own author.
        self.assertIs(self.with_change(make(0, 3, [2, 0, 0])), False)
        self.assertIs(self.with_change(make(1, 2, [0, 1, 0])), False)

    def test_only_a_last_change_in_the_store_is_asked(self):
        store = Store(2)
        store.cut = [2, 1]
        store.add(make(1, 2, [0, 1]))
        store.add(make(0, 3, [2, 0]))
        self.assertIs(is_whole(store), True)

    def test_one_bad_change_is_enough(self):
        net = Net(2)
        net.change(0)
        net.store.add(make(0, 2, [1, 4]))
        net.store.add(make(0, 3, [2, 4]))
        net.change(1, heard={0: 0})
        self.assertIs(is_whole(net.store), False)


if __name__ == "__main__":
    unittest.main()
