"""Points 8 to 10: changes, the past of a change, the order of changes."""

import unittest

from kithwhole.changes import Change, in_order, in_past, order_key
from tests.support import make


class Changes(unittest.TestCase):
    def test_attributes_are_kept(self):
        part = (("table", "t"),)
        change = Change(1, 2, (3, 1), (0, 1, 0), (("seal",),), (part, None, (), ()))
        self.assertEqual((change.author, change.number), (1, 2))
        self.assertEqual(change.heard, (3, 1))
        self.assertEqual(change.capability, (0, 1, 0))
        self.assertEqual(change.publics, (("seal",),))
        self.assertEqual(change.parts, (part, None, (), ()))
        self.assertIsNone(make(0, 1, [0]).capability)

    def test_lists_become_tuples(self):
        change = Change(0, 1, [0, 0], None, [("seal",)], [[("table", "t")], None, [], ()])
        self.assertEqual(change.heard, (0, 0))
        self.assertEqual(change.publics, (("seal",),))
        self.assertEqual(change.parts, ((("table", "t"),), None, (), ()))
        for kept in (change.heard, change.publics, change.parts, change.parts[0], change.parts[2]):
            self.assertIs(type(kept), tuple)

    def test_later_changes_of_the_arguments_have_no_effect(self):
        heard, publics, part = [0, 0], [("seal",)], [("table", "t")]
        parts = [part, None, [], []]
        change = Change(0, 1, heard, None, publics, parts)
        heard[1] = 7
        publics.append(("seal",))
        part.clear()
        parts[1] = []
        self.assertEqual(change.header(), (0, 1, (0, 0), None, (("seal",),)))
        self.assertEqual(change.parts, ((("table", "t"),), None, (), ()))

    def test_name_and_header(self):
        change = make(2, 5, [1, 0, 4], (0, 1, 2), [("revoke", None)])
        self.assertEqual(change.name(), (2, 5))
        self.assertEqual(change.header(), (2, 5, (1, 0, 4), (0, 1, 2), (("revoke", None),)))

    def test_with_parts_makes_a_new_change(self):
        change = make(1, 1, [3, 0], (0, 1, 0), [("seal",)], {0: [("table", "t")]})
        part = [("table", "u")]
        parts = [None, part, None, ()]
        other = change.with_parts(parts)
        parts[0] = ()
        part.append(("table", "v"))
        self.assertEqual(other.header(), change.header())
        self.assertEqual(other.parts, (None, (("table", "u"),), None, ()))
        self.assertEqual(change.parts, ((("table", "t"),), (), (), ()))
        self.assertIsInstance(other, Change)


class Past(unittest.TestCase):
    def test_the_first_so_many_are_in_the_past(self):
        change = make(1, 3, [2, 2, 0])
        self.assertIs(in_past((0, 1), change), True)
        self.assertIs(in_past((0, 2), change), True)
        self.assertIs(in_past((0, 3), change), False)
        self.assertIs(in_past((2, 1), change), False)

    def test_the_own_changes(self):
        change = make(1, 3, [2, 2, 0])
        self.assertIs(in_past((1, 2), change), True)
        self.assertIs(in_past((1, 3), change), False)
        self.assertIs(in_past((1, 4), change), False)

    def test_numbers_below_one_and_authors_that_are_no_members(self):
        change = make(1, 3, [2, 2, 4])
        for name in ((0, 0), (0, -1), (3, 1), (9, 1), (-1, 1), (-1, 0), (-3, 1)):
            self.assertIs(in_past(name, change), False)


class Order(unittest.TestCase):
    def test_the_key(self):
        self.assertEqual(order_key(make(2, 4, [1, 5, 3])), (9, 2, 4))
        self.assertEqual(order_key(make(0, 1, [0])), (0, 0, 1))

    def test_who_heard_less_comes_first(self):
        one, two = make(1, 1, [1, 0, 0]), make(0, 3, [2, 0, 0])
        self.assertEqual(in_order([two, one]), [one, two])

    def test_equal_sums_go_by_author_and_then_by_number(self):
        changes = [make(2, 2, [0, 1, 1]), make(1, 3, [0, 2, 0]), make(0, 1, [0, 2, 0]), make(1, 2, [1, 1, 0])]
        names = [change.name() for change in in_order(changes)]
        self.assertEqual(names, [(0, 1), (1, 2), (1, 3), (2, 2)])

    def test_the_list_is_new(self):
        changes = [make(1, 1, [1, 0]), make(0, 1, [0, 0])]
        ordered = in_order(changes)
        self.assertEqual([change.name() for change in changes], [(1, 1), (0, 1)])
        self.assertIs(type(ordered), list)
        alone = [make(0, 1, [0])]
        self.assertIsNot(in_order(alone), alone)
        self.assertEqual(in_order(()), [])


if __name__ == "__main__":
    unittest.main()
