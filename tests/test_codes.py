"""Point 96: the written form of each kind of thing, byte by byte, and reading it back."""

import random
import unittest

from kithwhole import codes
from kithwhole.changes import Change
from kithwhole.errors import DamagedPacket
from kithwhole.reading import Reader
from kithwhole.store import Kept, Store
from tests.random_data import SIGNS, Data, spoilt
from tests.support import ALL, BOTH, NO, READ, WRITE, make

WORDS = ("number", "integer", "string", "value", "act", "change", "kept", "capability", "store")
NUMBERS = [
    (0, [0]), (1, [1]), (127, [127]), (128, [128, 1]), (129, [129, 1]), (255, [255, 1]), (256, [128, 2]),
    (300, [172, 2]), (16383, [255, 127]), (16384, [128, 128, 1]), (2097152, [128, 128, 128, 1]),
    (10 ** 15 - 1, [255, 255, 153, 166, 234, 175, 227, 1])]
S, S_BYTES = (0, 128, 2), [0, 128, 1, 2]
R, R_BYTES = (1, 2, 3), [1, 2, 3]
M, M_BYTES = (1, 2, 3, 300), [1, 2, 3, 172, 2]
ACTS = [
    (("table", "ab"), [0, 2, 97, 98]),
    (("column", S, "c", "integer"), [1] + S_BYTES + [1, 99, 0]), (("column", S, "c", "text"), [1] + S_BYTES + [1, 99, 1]),
    (("column", S, "c", "boolean"), [1] + S_BYTES + [1, 99, 2]), (("column", S, "c", "counter"), [1] + S_BYTES + [1, 99, 3]),
    (("column", S, "c", "letters"), [1] + S_BYTES + [1, 99, 4]), (("column", S, "c", "stock"), [1] + S_BYTES + [1, 99, 5]),
    (("column", S, "c", ("refer", R)), [1] + S_BYTES + [1, 99, 6] + R_BYTES),
    (("unique", S, ()), [2] + S_BYTES + [0]), (("unique", S, (R, S)), [2] + S_BYTES + [2] + R_BYTES + S_BYTES),
    (("row", S), [3] + S_BYTES), (("drop", R), [4] + R_BYTES),
    (("put", S, R, None), [5] + S_BYTES + R_BYTES + [0]), (("put", S, R, True), [5] + S_BYTES + R_BYTES + [1, 1]),
    (("put", S, R, -300), [5] + S_BYTES + R_BYTES + [2, 1, 172, 2]),
    (("refer", S, R, None), [6] + S_BYTES + R_BYTES + [0]), (("refer", S, R, R), [6] + S_BYTES + R_BYTES + [1] + R_BYTES),
    (("add", S, R, -1), [7] + S_BYTES + R_BYTES + [1, 1]),
    (("insert", S, R, None, "x"), [8] + S_BYTES + R_BYTES + [0, 1, 120]),
    (("insert", S, R, M, ""), [8] + S_BYTES + R_BYTES + [1] + M_BYTES + [0]),
    (("remove", M), [9] + M_BYTES), (("undo", (1, 300)), [10, 1, 172, 2]),
    (("spend", S, R, 5), [11] + S_BYTES + R_BYTES + [0, 5]), (("lend", S, R, 4, 5), [12] + S_BYTES + R_BYTES + [4, 0, 5]),
    (("lens", "l", S, (), ()), [13, 1, 108] + S_BYTES + [0, 0]),
    (("lens", "l", S, ((R, "a"),), ((S, False), (R, "b"))),
     [13, 1, 108] + S_BYTES + [1] + R_BYTES + [1, 97, 2] + S_BYTES + [1, 0] + R_BYTES + [3, 1, 98])]
RIGHTS, RIGHTS_BYTES = (READ, BOTH, NO, (False, False, True)), [1, 0, 0, 1, 1, 0, 0, 0, 0, 0, 0, 1]
KEPT = Kept([(S, ("row", R))], [((S, R), -2), ((R, R), 0)], [((S, R), [(M, "a"), (M, "\n")])], [((S, R, 2), 300)])
KEPT_BYTES = ([1] + S_BYTES + [3] + R_BYTES + [2] + S_BYTES + R_BYTES + [1, 2] + R_BYTES + R_BYTES + [0, 0] +
              [1] + S_BYTES + R_BYTES + [2] + M_BYTES + [97] + M_BYTES + [10] + [1] + S_BYTES + R_BYTES + [2, 172, 2])
CHANGE = Change(3, 300, [1, 0, 128], (0, 1, 2), [("grant", 5, RIGHTS), ("revoke", None), ("revoke", R), ("seal",)],
                [[("row", S), ("drop", R)], None, [], [("undo", (0, 1))]])
CHANGE_BYTES = ([3, 172, 2, 3, 1, 0, 128, 1, 1, 0, 1, 2, 4, 0, 5] + RIGHTS_BYTES + [1, 0, 1, 1] + R_BYTES + [2] +
                [1, 2, 3] + S_BYTES + [4] + R_BYTES + [0, 1, 0, 1, 1, 10, 0, 1])
PLAIN = make(0, 1, [0])
PLAIN_BYTES = [0, 1, 1, 0, 0, 0, 1, 0, 1, 0, 1, 0, 1, 0]


def plain(thing):
    """What can be compared, with the kinds of all values."""
    if isinstance(thing, Change):
        thing = thing.header() + (thing.parts,)
    return repr(thing.data() if hasattr(thing, "data") else thing)


class Case(unittest.TestCase):
    def both(self, word, thing, data):
        """The thing is written as these bytes and they are read as the thing."""
        self.assertEqual(getattr(codes, "write_" + word)(thing), data)
        self.assertEqual(plain(self.read(word, data)), plain(thing))
        for end in range(len(data)):
            self.refused(word, data[:end])

    def read(self, word, data):
        reader = Reader(data)
        thing = getattr(reader, "read_" + word)()
        reader.end()
        return thing

    def refused(self, word, *cases):
        for data in cases:
            with self.assertRaises(DamagedPacket, msg=(word, data)):
                self.read(word, data)


class Numbers(Case):
    def test_natural_numbers(self):
        for number, data in NUMBERS:
            self.both("number", number, data)

    def test_a_number_whose_last_byte_is_0(self):
        self.refused("number", [128, 0], [255, 0], [128, 128, 0], [129, 128, 0])

    def test_a_number_has_at_most_60_bytes(self):
        self.assertEqual(self.read("number", [255] * 59 + [1]), (1 << 7 * 59) - 1 + (1 << 7 * 59))
        self.refused("number", [255] * 60 + [1], [255] * 60, [128] * 61)
        self.assertEqual(codes.write_number(1 << 7 * 59), [128] * 59 + [1])

    def test_integers(self):
        self.both("integer", 0, [0, 0])
        self.both("integer", 1, [0, 1])
        self.both("integer", -1, [1, 1])
        self.both("integer", 300, [0, 172, 2])
        self.both("integer", -300, [1, 172, 2])
        self.both("integer", -10 ** 40, [1] + codes.write_number(10 ** 40))

    def test_zero_is_not_negative(self):
        self.refused("integer", [1, 0], [2, 1], [128, 0, 1], [255, 1])


class Strings(Case):
    def test_characters(self):
        self.both("string", "", [0])
        self.both("string", "ab\n ~", [5, 97, 98, 10, 32, 126])
        self.both("string", SIGNS, [95] + [ord(sign) for sign in SIGNS])
        self.both("string", "x" * 200, [200, 1] + [120] * 200)

    def test_other_characters(self):
        for code in list(range(10)) + list(range(11, 32)) + [37, 127]:
            self.refused("string", [1, code], [2, 97, code])
        self.refused("string", [1, 128, 1], [1, 225, 1], [1, 138, 0], [1, 160, 0], [1, 255, 255, 1])

    def test_a_list_has_at_most_as_many_items_as_bytes_are_left(self):
        self.refused("string", [2, 97], [255, 255, 255, 255, 127], [128] * 50 + [1])
        self.assertEqual(self.read("string", [2, 97, 97]), "aa")


class Values(Case):
    def test_each_kind(self):
        self.both("value", None, [0])
        self.both("value", False, [1, 0])
        self.both("value", True, [1, 1])
        self.both("value", 0, [2, 0, 0])
        self.both("value", 1, [2, 0, 1])
        self.both("value", -128, [2, 1, 128, 1])
        self.both("value", "", [3, 0])
        self.both("value", "a", [3, 1, 97])

    def test_other_kinds(self):
        self.refused("value", [4], [4, 0], [1, 2], [2, 2, 1], [2, 1, 0], [255, 1], [128, 0], [131, 0, 1, 97])


class Acts(Case):
    def test_each_act(self):
        for act, data in ACTS:
            self.both("act", act, data)

    def test_other_numbers(self):
        self.refused("act", [14], [14, 0], [14] + S_BYTES, [142, 0], [1] + S_BYTES + [1, 99, 7],
                     [1] + S_BYTES + [1, 99, 7] + R_BYTES, [6] + S_BYTES + R_BYTES + [2] + R_BYTES)


class Changes(Case):
    def test_a_change(self):
        self.both("change", CHANGE, CHANGE_BYTES)
        self.both("change", PLAIN, PLAIN_BYTES)

    def test_any_natural_numbers_are_accepted(self):
        for change in (make(9, 0, [], (7, 0, 10 ** 20)), make(0, 1, [10 ** 30] * 9, None, [("grant", 99, (ALL,) * 4)])):
            self.both("change", change, codes.write_change(change))

    def test_wrong_bytes(self):
        self.refused("change", PLAIN_BYTES[:4] + [2] + PLAIN_BYTES[5:], PLAIN_BYTES[:5] + [1, 3] + PLAIN_BYTES[6:],
                     PLAIN_BYTES[:-1] + [2], PLAIN_BYTES[:-2] + [2, 0],
                     PLAIN_BYTES[:5] + [1, 0, 1] + [2] + [0] * 11 + PLAIN_BYTES[6:],
                     PLAIN_BYTES + [0])

    def test_parts_and_lists_are_tuples(self):
        change = self.read("change", CHANGE_BYTES)
        self.assertEqual((change.heard, change.parts[1:3]), ((1, 0, 128), (None, ())))
        self.assertIsInstance(change.publics[0][2][0][0], bool)


class KeptThings(Case):
    def test_kept(self):
        self.both("kept", KEPT, KEPT_BYTES)
        self.both("kept", Kept([], [], [], []), [0, 0, 0, 0])

    def test_characters_are_written_as_their_codes(self):
        start = [0, 0, 1] + S_BYTES + R_BYTES + [1] + M_BYTES
        self.assertEqual(self.read("kept", start + [126, 0]).texts, [((S, R), [(M, "~")])])
        self.refused("kept", start + [37, 0], start + [1, 97, 0], start + [9, 0], start + [127, 0], start + [225, 0, 0])

    def test_a_share_is_a_natural_number(self):
        self.assertEqual(self.read("kept", [0, 0, 0, 1] + S_BYTES + R_BYTES + [9, 0]).shares, [((S, R, 9), 0)])

    def test_capabilities(self):
        self.both("capability", (S, None, 5, RIGHTS), S_BYTES + [0, 5] + RIGHTS_BYTES)
        self.both("capability", (R, S, 0, (WRITE, ALL, NO, NO)),
                  R_BYTES + [1] + S_BYTES + [0, 0, 1, 0, 1, 1, 1] + [0] * 6)
        self.refused("capability", S_BYTES + [2, 5] + RIGHTS_BYTES, S_BYTES + [0, 5] + RIGHTS_BYTES[:-1] + [2],
                     S_BYTES + [0, 5] + RIGHTS_BYTES + [0])


class Stores(Case):
    def test_an_empty_store(self):
        self.both("store", Store(1), [1, 0, 0] + [1, 0, 0, 0, 0] * 4 + [0])
        self.both("store", Store(6), [6] + [0] * 7 + [1, 0, 0, 0, 0] * 4 + [0] * 6)

    def full(self):
        store = Store(2)
        store.cut = [0, 4]
        store.capabilities = [(S, None, 5, RIGHTS), (R, S, 0, RIGHTS)]
        store.kept = [None, KEPT, Kept([], [], [], []), None]
        store.add(PLAIN)
        store.add(make(0, 2, [0], parts={0: "unknown"}))
        store.add(make(1, 5, [0]))
        return store

    def test_a_store(self):
        data = ([2, 0, 4, 2] + S_BYTES + [0, 5] + RIGHTS_BYTES + R_BYTES + [1] + S_BYTES + [0] + RIGHTS_BYTES +
                [0, 1] + KEPT_BYTES + [1, 0, 0, 0, 0, 0] + [2] + PLAIN_BYTES + [0, 2, 1, 0, 0, 0, 0, 1, 0, 1, 0, 1, 0] +
                [1, 1, 5] + PLAIN_BYTES[2:])
        self.both("store", self.full(), data)

    def test_the_number_of_members(self):
        self.refused("store", [0, 0] + [0] * 4, [7] + [0] * 8 + [0] * 4 + [0] * 7)

    def test_the_changes_of_each_list_are_those_of_its_member(self):
        for cut, author, numbers, fine in (
            ([0], 0, [1], True), ([0], 1, [1], False), ([0], 0, [2], False), ([0], 0, [0], False), ([3], 0, [4, 5], True),
            ([3], 0, [3, 4], False), ([3], 0, [5], False), ([3], 0, [4, 6], False), ([3], 0, [4, 4], False),
            ([3], 0, [5, 4], False), ([0], 0, [1, 2, 3], True),
        ):
            data = codes.write_list(cut, codes.write_number) + [0, 0, 0, 0, 0, len(numbers)]
            for number in numbers:
                data += [author, number] + PLAIN_BYTES[2:]
            if fine:
                self.assertEqual([change.number for change in self.read("store", data).changes[0]], numbers)
            else:
                self.refused("store", data)

    def test_the_lists_stand_in_the_order_of_the_members(self):
        first = codes.write_store(self.full())
        self.assertEqual([len(changes) for changes in self.read("store", first).changes], [2, 1])


class Readers(unittest.TestCase):
    def test_things_stand_one_after_another(self):
        reader = Reader([1] + [2, 97, 98] + [0, 5] + [3] + R_BYTES)
        self.assertEqual(reader.at, 0)
        self.assertEqual((reader.read_number(), reader.at), (1, 1))
        self.assertEqual((reader.read_string(), reader.at), ("ab", 4))
        self.assertEqual((reader.read_integer(), reader.at), (5, 6))
        with self.assertRaises(DamagedPacket):
            reader.end()
        self.assertEqual((reader.read_act(), reader.at), (("row", R), 10))
        self.assertIsNone(reader.end())

    def test_no_bytes(self):
        Reader([]).end()
        for word in WORDS:
            with self.assertRaises(DamagedPacket):
                getattr(Reader([]), "read_" + word)()

    def test_what_is_changed_later_has_no_effect(self):
        data = [1, 2, 3]
        reader = Reader(data)
        data.clear()
        self.assertEqual([reader.read_number() for _ in range(3)], [1, 2, 3])

    def test_nothing_is_shared_with_what_was_written(self):
        kept = Reader(KEPT_BYTES).read_kept()
        data = codes.write_kept(kept)
        data.clear()
        kept.texts[0][1].clear()
        self.assertEqual(codes.write_kept(KEPT), KEPT_BYTES)


class Random(unittest.TestCase):
    def test_only_what_is_written_so_is_read(self):
        """What spoilt bytes are read as is written as just these bytes."""
        read = refused = 0
        for seed in range(900):
            chance = random.Random(seed)
            data = Data(chance)
            word = WORDS[seed % len(WORDS)]
            write = getattr(codes, "write_" + word)
            thing = getattr(data, word)()
            written = write(thing)
            self.assertTrue(all(0 <= byte < 256 for byte in written))
            reader = Reader(written + [7])
            self.assertEqual(plain(getattr(reader, "read_" + word)()), plain(thing))
            self.assertEqual(reader.at, len(written))
            for _ in range(12):
                bytes_read = spoilt(chance, written)
                reader = Reader(bytes_read)
                try:
                    again = getattr(reader, "read_" + word)()
                except DamagedPacket:
                    refused += 1
                    continue
                self.assertEqual(write(again), bytes_read[:reader.at])
                read += 1
        self.assertGreater(min(read, refused), 1000)


if __name__ == "__main__":
    unittest.main()
