"""Points 34 to 38: the list of characters of a cell, dead characters, which characters show."""

import unittest

from kithwhole.letters import characters, text_of
from kithwhole.store import Kept
from tests.support import ALL_RIGHTS, NO_RIGHTS, READ, UNKNOWN, Net, make

TABLE = (0, 1, 0)
LETTERS = (0, 1, 1)
NUMBER = (0, 1, 2)
ROW = (0, 1, 3)
OTHER_ROW = (0, 1, 4)


def insert(behind, text, row=ROW, column=LETTERS):
    return ("insert", row, column, behind, text)


def start(members=3, rights=ALL_RIGHTS):
    net = Net(members)
    acts = [("table", "t"), ("column", TABLE, "l", "letters"), ("column", TABLE, "n", "integer"), ("row", TABLE),
            ("row", TABLE)]
    net.change(0, acts, publics=[("grant", member, rights) for member in range(1, members)])
    return net


def cap(member):
    return (0, 1, member - 1)


class Base(unittest.TestCase):
    def listed(self, net, row=ROW, column=LETTERS):
        return characters(net.store, net.allowed(), 0, row, column)

    def text(self, net, row=ROW, column=LETTERS):
        told = text_of(net.store, net.allowed(), 0, row, column)
        self.assertEqual(told, "".join(sign for _, sign, shows in self.listed(net, row, column) if shows))
        self.assertEqual(told, net.sheet().entry(row, column))
        return told

    def signs(self, net):
        """All characters, those that do not show in brackets."""
        self.text(net)
        return "".join(sign if shows else "[" + sign + "]" for _, sign, shows in self.listed(net))


class Lists(Base):
    def test_an_empty_cell(self):
        self.assertEqual(self.listed(start()), [])
        self.assertEqual(self.text(start()), "")

    def test_marks(self):
        net = start()
        net.change(0, [insert(None, "abc")])
        self.assertEqual(self.listed(net), [
            ((0, 2, 0, 0), "a", True), ((0, 2, 0, 1), "b", True), ((0, 2, 0, 2), "c", True)])
        self.assertEqual(self.text(net), "abc")

    def test_behind_a_character_and_at_the_beginning(self):
        net = start()
        net.change(0, [insert(None, "ad"), insert((0, 2, 0, 0), "bc"), insert(None, "-"), insert((0, 2, 0, 1), "e")])
        self.assertEqual(self.text(net), "-abcde")

    def test_later_inserts_stand_directly_behind(self):
        net = start()
        net.change(0, [insert(None, "a")])
        net.change(1, [insert((0, 2, 0, 0), "12")], capability=cap(1), heard={2: 0})
        net.change(2, [insert((0, 2, 0, 0), "34")], capability=cap(2), heard={1: 0})
        self.assertEqual(self.text(net), "a3412")

    def test_an_empty_text(self):
        net = start()
        net.change(0, [insert(None, "ab"), insert((0, 2, 0, 0), ""), insert(None, "")])
        self.assertEqual(self.text(net), "ab")

    def test_newlines_and_blanks(self):
        net = start()
        net.change(0, [insert(None, " \n~")])
        self.assertEqual(self.text(net), " \n~")

    def test_only_of_the_cell(self):
        net = start()
        net.change(0, [insert(None, "a"), insert(None, "b", row=OTHER_ROW), insert((0, 2, 0, 0), "c", row=OTHER_ROW)])
        self.assertEqual(self.text(net), "a")
        self.assertEqual(self.text(net, OTHER_ROW), "b")

    def test_a_cell_of_another_kind(self):
        net = start()
        net.change(0, [insert(None, "a", column=NUMBER)])
        self.assertEqual(self.listed(net, ROW, NUMBER), [])
        self.assertEqual(text_of(net.store, net.allowed(), 0, ROW, NUMBER), "")
        self.assertIsNone(net.sheet().entry(ROW, NUMBER))

    def test_other_acts_do_not_write_letters(self):
        net = start()
        net.change(0, [("put", ROW, LETTERS, "x"), ("add", ROW, LETTERS, 1)])
        self.assertEqual(self.text(net), "")

    def test_each_space_for_itself(self):
        net = start()
        net.change(0, parts={1: [insert(None, "a")]})
        self.assertEqual(self.listed(net), [])

    def test_the_result_is_new(self):
        net = start()
        net.change(0, [insert(None, "a")])
        self.listed(net).clear()
        self.assertEqual(self.text(net), "a")


class Skipped(Base):
    def test_behind_an_absent_character(self):
        net = start()
        net.change(0, [insert(None, "a"), insert((0, 2, 0, 1), "b"), insert((0, 9, 0, 0), "c"),
                       insert((0, 2, 5, 0), "d"), insert((0, 2, 0, -1), "e")])
        self.assertEqual(self.listed(net), [((0, 2, 0, 0), "a", True)])

    def test_behind_what_was_skipped(self):
        net = start()
        net.change(0, [insert((0, 9, 0, 0), "a"), insert((0, 2, 0, 0), "b")])
        self.assertEqual(self.listed(net), [])

    def test_behind_an_unknown_character(self):
        net = start()
        net.change(1, [insert(None, "a")], capability=cap(1))
        net.change(2, [insert((1, 1, 0, 0), "b")], capability=cap(2), heard={1: 0})
        self.assertEqual(self.signs(net), "a")
        net.change(2, [insert((1, 1, 0, 0), "b")], capability=cap(2))
        self.assertEqual(self.signs(net), "ab")

    def test_behind_a_character_of_a_later_act(self):
        net = start()
        net.change(0, [insert((0, 2, 1, 0), "a"), insert(None, "b")])
        self.assertEqual(self.signs(net), "b")

    def test_the_row_and_the_column_must_be_known(self):
        net = start()
        made = net.change(1, [("row", TABLE), ("column", TABLE, "m", "letters")], capability=cap(1))
        row, column = made + (0,), made + (1,)
        acts = [insert(None, "a", row=row), insert(None, "b", column=column)]
        net.change(2, acts, capability=cap(2), heard={1: 0})
        self.assertEqual(self.listed(net, row), [])
        self.assertEqual(self.listed(net, ROW, column), [])
        net.change(2, acts, capability=cap(2))
        self.assertEqual(self.text(net, row), "a")
        self.assertEqual(self.text(net, ROW, column), "b")

    def test_changes_that_had_not_heard_what_is_cut_away(self):
        net = kept_net()
        net.store.add(make(1, 1, [1, 0], (0, 1, 0), (), {0: [insert((0, 2, 0, 0), "x")]}))
        self.assertEqual(self.signs(net), "ab")

    def test_changes_that_are_unrelated_to_a_seal(self):
        net = start()
        net.change(1, [insert(None, "a")], capability=cap(1))
        net.change(0, [insert(None, "b")], publics=[("seal",)], heard={1: 0})
        net.change(0, [insert(None, "c")])
        self.assertEqual(self.signs(net), "cb")

    def test_a_seal_that_is_not_allowed(self):
        net = start()
        net.change(1, [insert(None, "a")], capability=cap(1))
        net.change(2, publics=[("seal",)], capability=cap(2), heard={1: 0})
        self.assertEqual(self.signs(net), "a")

    def test_unknown_parts(self):
        net = start()
        net.change(0, parts={0: UNKNOWN, 1: [insert(None, "a")]})
        self.assertEqual(self.listed(net), [])


class Hidden(Base):
    def test_a_change_that_is_not_allowed(self):
        net = start()
        net.change(1, [insert(None, "ab")])
        net.change(0, [insert((1, 1, 0, 0), "c"), insert((1, 1, 0, 1), "d")])
        self.assertEqual(self.signs(net), "[a]c[b]d")

    def test_a_change_that_does_not_count(self):
        for rights in (NO_RIGHTS, (READ,) * 4):
            net = start(rights=rights)
            net.change(1, [insert(None, "a")], capability=cap(1))
            net.change(0, [insert((1, 1, 0, 0), "b")])
            self.assertEqual(self.signs(net), "[a]b")

    def test_a_change_that_is_undone_moves_no_character(self):
        net = start()
        net.change(0, [insert(None, "a")])
        net.change(1, [insert((0, 2, 0, 0), "bc")], capability=cap(1))
        net.change(2, [insert((1, 1, 0, 0), "d")], capability=cap(2))
        self.assertEqual(self.signs(net), "abdc")
        undo = net.change(0, [("undo", (1, 1))])
        self.assertEqual(self.signs(net), "a[b]d[c]")
        net.change(0, [("undo", undo)])
        self.assertEqual(self.signs(net), "abdc")

    def test_behind_a_character_that_does_not_show(self):
        net = start()
        net.change(0, [insert(None, "ab")])
        net.change(0, [("remove", (0, 2, 0, 0))])
        net.change(0, [insert((0, 2, 0, 0), "c")])
        self.assertEqual(self.signs(net), "[a]cb")

    def test_a_removed_character(self):
        net = start()
        net.change(0, [insert(None, "abc"), ("remove", (0, 2, 0, 1))])
        self.assertEqual(self.signs(net), "a[b]c")
        undone = net.change(1, [("remove", (0, 2, 0, 0))], capability=cap(1))
        self.assertEqual(self.signs(net), "[a][b]c")
        net.change(0, [("undo", undone)])
        self.assertEqual(self.signs(net), "a[b]c")

    def test_a_remove_must_know_the_insert(self):
        net = start()
        net.change(1, [("remove", (1, 1, 1, 0)), insert(None, "a")], capability=cap(1))
        self.assertEqual(self.signs(net), "a")
        net.change(2, [("remove", (1, 1, 1, 0))], capability=cap(2), heard={1: 0})
        self.assertEqual(self.signs(net), "a")
        net.change(2, [("remove", (1, 1, 1, 0))], capability=cap(2))
        self.assertEqual(self.signs(net), "[a]")

    def test_a_remove_must_be_effective(self):
        net = start()
        net.change(0, [insert(None, "ab")])
        net.change(1, [("remove", (0, 2, 0, 0))])
        self.assertEqual(self.signs(net), "ab")

    def test_a_remove_of_an_absent_character(self):
        net = start()
        net.change(0, [insert(None, "a"), ("remove", (0, 2, 0, 1)), ("remove", (0, 1, 0, 0))])
        self.assertEqual(self.signs(net), "a")


class Dead(Base):
    def test_a_removed_character_when_all_is_closed(self):
        net = start()
        net.change(0, [insert(None, "ab")])
        net.change(1, [("remove", (0, 2, 0, 0))], capability=cap(1))
        early = net.change(2, [insert((0, 2, 0, 0), "c")], capability=cap(2))
        net.seal()
        self.assertEqual(early, (2, 1))
        net.change(2, [insert((0, 2, 0, 0), "d"), insert((0, 2, 0, 1), "e")], capability=cap(2))
        self.assertEqual(self.signs(net), "[a]cbe")

    def test_the_remove_must_be_closed_too(self):
        net = start()
        net.change(0, [insert(None, "ab")])
        net.seal()
        net.change(1, [("remove", (0, 2, 0, 0))], capability=cap(1))
        net.change(2, [insert((0, 2, 0, 0), "c")], capability=cap(2))
        self.assertEqual(self.signs(net), "[a]cb")

    def test_the_change_of_the_character_must_be_closed(self):
        net = start()
        net.change(0, [insert(None, "a")])
        net.change(0, [("undo", (0, 2))])
        net.change(0, [insert((0, 2, 0, 0), "b")])
        self.assertEqual(self.signs(net), "[a]b")

    def test_a_closed_change_that_takes_no_effect(self):
        net = start()
        net.change(0, [insert(None, "a")])
        net.change(1, [insert(None, "b")])
        net.change(0, [("undo", (0, 2))])
        net.seal()
        net.change(0, [insert((0, 2, 0, 0), "c"), insert((1, 1, 0, 0), "d"), insert(None, "e")])
        self.assertEqual(self.signs(net), "e[b][a]")

    def test_the_seal_must_be_in_the_past_of_the_act(self):
        net = start()
        net.change(0, [insert(None, "a"), ("remove", (0, 2, 0, 0))])
        net.change(0, [insert((0, 2, 0, 0), "b")], publics=[("seal",)])
        self.assertEqual(self.signs(net), "[a]b")


def kept_net():
    """A store whose past is cut away; of a cell two characters are kept."""
    net = Net(2)
    net.store.cut = [3, 0]
    net.store.capabilities = [((0, 1, 0), None, 1, ALL_RIGHTS)]
    acts = [(TABLE, ("table", "t")), (LETTERS, ("column", TABLE, "l", "letters")), (ROW, ("row", TABLE))]
    texts = [((ROW, LETTERS), [((0, 2, 0, 0), "a"), ((0, 2, 0, 3), "b")])]
    net.store.kept[0] = Kept(acts, [], texts, [])
    return net


class KeptCharacters(Base):
    def test_they_stand_in_the_list_and_show(self):
        self.assertEqual(self.listed(kept_net()), [((0, 2, 0, 0), "a", True), ((0, 2, 0, 3), "b", True)])
        self.assertEqual(self.text(kept_net()), "ab")

    def test_inserts_behind_them(self):
        net = kept_net()
        net.change(1, [insert((0, 2, 0, 0), "xy"), insert(None, "z"), insert((0, 2, 0, 1), "w")],
                   capability=(0, 1, 0))
        self.assertEqual(self.signs(net), "zaxyb")

    def test_they_are_removed(self):
        net = kept_net()
        net.change(1, [("remove", (0, 2, 0, 3))], capability=(0, 1, 0))
        self.assertEqual(self.signs(net), "a[b]")
        net.change(0, [insert((0, 2, 0, 3), "c")])
        self.assertEqual(self.signs(net), "a[b]c")

    def test_they_are_dead_when_the_remove_is_closed(self):
        net = kept_net()
        net.change(1, [("remove", (0, 2, 0, 3))], capability=(0, 1, 0))
        net.seal()
        net.change(0, [insert((0, 2, 0, 3), "c"), insert((0, 2, 0, 0), "d")])
        self.assertEqual(self.signs(net), "ad[b]")

    def test_what_is_kept_is_not_known(self):
        net = kept_net()
        net.store.kept[0] = None
        net.change(0, [("table", "t"), ("column", (0, 4, 0), "l", "letters"), ("row", (0, 4, 0)),
                       insert(None, "a", (0, 4, 2), (0, 4, 1)),
                       insert((0, 2, 0, 0), "b", (0, 4, 2), (0, 4, 1))])
        self.assertEqual(self.text(net, (0, 4, 2), (0, 4, 1)), "a")


if __name__ == "__main__":
    unittest.main()
