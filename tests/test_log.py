"""Points 102 and 103: records, and what a log tells."""

import random
import unittest

from kithwhole.changes import Change
from kithwhole.codes import write_change, write_number, write_store
from kithwhole.log import checksum, counting_file, log_start, read_log, read_records, write_record
from kithwhole.packets import asking, giving, taking
from kithwhole.store import Store, is_whole
from tests.random_data import spoilt
from tests.random_stores import Maker
from tests.support import UNKNOWN, Net, make

TABLE = ("table", "t")


class Records(unittest.TestCase):
    def test_the_checksum(self):
        self.assertEqual(checksum([]), 7)
        self.assertEqual(checksum([0]), 218)
        self.assertEqual(checksum([7, 8]), 6984)
        total = 7
        for byte in [255] * 50:
            total = (31 * total + byte + 1) % 2 ** 32
        self.assertEqual(checksum([255] * 50), total)
        self.assertLess(checksum([255] * 50), 2 ** 32)

    def test_a_record(self):
        self.assertEqual(write_record([7, 8]), [2, 7, 8, 0, 0, 27, 72])
        self.assertEqual(write_record([]), [0, 0, 0, 0, 7])
        data = [9] * 300
        total = checksum(data)
        self.assertEqual(write_record(data), [172, 2] + data + [
            total // 2 ** 24, total // 2 ** 16 % 256, total // 256 % 256, total % 256])

    def test_each_byte_of_the_checksum(self):
        for number in range(200):
            data = [number, 255 - number, number, 200, number, 7, 7, 7 + number]
            total = 7
            for byte in data:
                total = (31 * total + byte + 1) % 2 ** 32
            self.assertEqual(write_record(data)[-4:], list(total.to_bytes(4, "big")))

    def test_what_is_written_is_not_changed(self):
        data = [1, 2]
        write_record(data).clear()
        self.assertEqual(data, [1, 2])

    def test_reading(self):
        records = [[7, 8], [], [1] * 200, [0]]
        data = [byte for record in records for byte in write_record(record)]
        self.assertEqual(read_records(data), (records, len(data)))
        self.assertEqual(read_records([]), ([], 0))
        self.assertEqual(read_records(data + [1]), (records, len(data)))

    def test_an_incomplete_record_ends_the_reading(self):
        first, second = write_record([5, 6]), write_record([1] * 130)
        for end in range(len(second)):
            self.assertEqual(read_records(first + second[:end]), ([[5, 6]], len(first)))
        self.assertEqual(read_records(second[1:]), ([], 0))

    def test_another_checksum_ends_the_reading(self):
        first, second = write_record([5, 6]), write_record([3])
        for place in range(len(first)):
            for by in (1, 128, 255):
                data = first[:place] + [(first[place] + by) % 256] + first[place + 1:]
                self.assertNotIn([5, 6], read_records(data + second)[0])
        data = first + second[:-1] + [second[-1] ^ 1] + first
        self.assertEqual(read_records(data), ([[5, 6]], len(first)))

    def test_a_number_that_is_not_in_its_written_form(self):
        record = [7, 8]
        tail = write_record(record)[1:]
        self.assertEqual(read_records([2] + tail), ([record], 7))
        self.assertEqual(read_records([130, 0] + tail), ([], 0))
        self.assertEqual(read_records([130, 128, 0] + tail), ([], 0))
        self.assertEqual(read_records([255] * 70), ([], 0))

    def test_spoilt_records(self):
        for seed in range(300):
            chance = random.Random(seed)
            records = [[chance.randrange(256) for _ in range(chance.randrange(4))] for _ in range(3)]
            data = spoilt(chance, [byte for record in records for byte in write_record(record)])
            found, size = read_records(data)
            self.assertEqual([byte for record in found for byte in write_record(record)], data[:size])
            rest = data[size:]
            # No complete record stands behind.
            for many in range(len(rest)):
                self.assertNotEqual(write_record(rest[1:1 + many]), rest[:many + 5])


class Logs(unittest.TestCase):
    def setUp(self):
        net = Net(2)
        net.change(0, [TABLE], publics=[("grant", 1, ((True, True, True),) * 4)])
        net.change(1, [("row", (0, 1, 0))], capability=(0, 1, 0))
        self.store = net.store
        self.first, = net.store.changes[0]
        self.second, = net.store.changes[1]

    def note(self, change):
        return write_record([3] + write_change(change))

    def told(self, data, members=2):
        told = read_log(data, members)
        return told if told is None else (told[0], told[1].data(), told[2])

    def test_a_log_without_notes(self):
        store = Store(2)
        data = write_record([1, 172, 2]) + write_record([3] + write_store(store)) + write_record([2])
        self.assertEqual(log_start(300, store), data)
        self.assertEqual(self.told(data), (300, store.data(), len(data)))
        data = log_start(0, self.store)
        self.assertEqual(self.told(data), (0, self.store.data(), len(data)))

    def test_notes_with_changes(self):
        data = log_start(1, Store(2)) + self.note(self.first) + self.note(self.second)
        self.assertEqual(self.told(data), (1, self.store.data(), len(data)))

    def test_notes_with_packets(self):
        packet = giving(self.store, asking(Store(2), 1))
        data = log_start(1, Store(2)) + write_record(packet)
        self.assertEqual(self.told(data), (1, taking(Store(2), packet).data(), len(data)))
        data += write_record(packet) + self.note(make(0, 2, [1, 1]))
        store = taking(Store(2), packet)
        store.add(make(0, 2, [1, 1]))
        self.assertEqual(self.told(data), (1, store.data(), len(data)))

    def test_a_note_with_a_change_whose_parts_are_not_all_known(self):
        change = make(0, 1, [0, 0], parts={1: UNKNOWN})
        data = log_start(1, Store(2)) + self.note(change)
        self.assertEqual(self.told(data)[1][3][0][0][-1], ((), None, (), ()))

    def test_a_note_that_is_not_as_told_ends_the_log(self):
        start = log_start(4, Store(2)) + self.note(self.first)
        store = Store(2)
        store.add(self.first)
        told = (4, store.data(), len(start))
        right = self.note(self.second)
        self.assertEqual(self.told(start + right)[1], self.store.data())
        packet = giving(self.store, asking(store, 0))
        for record in (
            [], [2], [3], [1, 4], [4], [1], [3] + write_change(self.second) + [0], [3] + write_change(self.second)[:-1],
            [3] + write_change(self.first), [3] + write_change(make(0, 3, [2, 0])), [3] + write_change(make(1, 2, [1, 1])),
            [3] + write_change(make(2, 1, [1, 0])), [3] + write_change(make(1, 0, [1, 0])),
            [3] + write_change(make(1, 1, [2, 0])),
            [3] + write_change(make(1, 1, [1])), [3] + write_change(make(0, 2, [1, 1])), [3] + write_change(make(0, 2, [0, 0])),
            packet + [0], packet[:-1], asking(store, 1), giving(Store(3), asking(Store(3), 0)), [3] + write_store(self.store),
            write_change(self.second),
        ):
            self.assertEqual(self.told(start + write_record(record)), told, record)
            self.assertEqual(self.told(start + write_record(record) + right), told, record)
        self.assertEqual(self.told(start + write_record(packet))[1], self.store.data())

    def test_a_log_cut_at_any_place(self):
        parts = [log_start(1, Store(2)), self.note(self.first), self.note(self.second)]
        data = parts[0] + parts[1] + parts[2]
        ends = [len(parts[0]), len(parts[0]) + len(parts[1]), len(data)]
        counts = [[0, 0], [1, 0], [1, 1]]
        for end in range(len(data) + 1):
            complete = [place for place in ends if place <= end]
            told = read_log(data[:end], 2)
            if not complete:
                self.assertIsNone(told)
            else:
                self.assertEqual((told[0], told[1].counts(), told[2]), (1, counts[len(complete) - 1], complete[-1]))

    def test_a_file_tells_nothing_without_its_first_three_records(self):
        turn, store, end = [1, 9], [3] + write_store(Store(2)), [2]
        right = [turn, store, end]

        def written(records):
            return [byte for record in records for byte in write_record(record)]

        self.assertIsNotNone(self.told(written(right)))
        for records in (
            [], [turn], [turn, store], [store, turn, end], [turn, end, store], [turn, end], [store, end], [[1], store, end],
            [[1, 9, 0], store, end], [[2, 9], store, end], [[], store, end], [[1, 137, 0], store, end], [turn, [3], end],
            [turn, store + [0], end], [turn, store[:-1], end], [turn, [2] + store[1:], end], [turn, store[1:], end],
            [turn, store, [2, 0]], [turn, store, [3]], [turn, store, []], [turn, store, turn], [turn, turn, end],
            [turn, store, store], [turn, [3] + write_store(Store(3)), end], [turn, [3] + write_store(Store(1)), end],
        ):
            self.assertIsNone(self.told(written(records)), records)
            if records:
                self.assertIsNone(self.told(written(records + right)), records)

    def test_another_number_of_members(self):
        for members in range(1, 7):
            told = read_log(log_start(1, Store(3)), members)
            self.assertEqual(told is None, members != 3)

    def test_the_store_of_a_log_need_not_be_whole(self):
        store = Store(2)
        store.add(make(0, 1, [0, 4]))
        self.assertIs(is_whole(store), False)
        data = log_start(1, store)
        self.assertEqual(self.told(data), (1, store.data(), len(data)))
        self.assertEqual(self.told(data + self.note(make(1, 1, [1, 0]))), (1, store.data(), len(data)))

    def test_a_large_turn(self):
        self.assertEqual(read_log(log_start(10 ** 20, Store(1)), 1)[0], 10 ** 20)
        self.assertEqual(log_start(10 ** 20, Store(1))[:2], [len(write_number(10 ** 20)) + 1, 1])

    def test_nothing_is_changed(self):
        data = log_start(1, Store(2)) + self.note(self.first)
        before = list(data)
        read_log(data, 2)[1].changes[0].clear()
        self.assertEqual(data, before)
        self.assertEqual(read_log(data, 2)[1].counts(), [1, 0])


class Counting(unittest.TestCase):
    def test_which_file_counts(self):
        def log(turn, members=2):
            return log_start(turn, Store(members))

        for first, second, index in (
            ([], [], None), (log(1), [], 0), ([], log(1), 1), (log(1), log(2), 1), (log(2), log(1), 0), (log(2), log(2), 0),
            (log(9), log(10), 1), (log(300), log(9), 0), (log(5)[:-1], log(1), 1), (log(1), log(5)[:-1], 0),
            (log(5, 3), log(1), 1),
            (log(1), log(5, 1), 0), (log(1, 3), log(1, 3), None), ([1, 2, 3], [0], None), (log(1) + [77], log(0), 0),
        ):
            self.assertEqual(counting_file(first, second, 2), index)


class Random(unittest.TestCase):
    def test_spoilt_logs(self):
        """Whatever is left of a log: what it tells is what some of its first notes made."""
        ended = 0
        for seed in range(25):
            chance = random.Random(seed)
            maker = Maker(seed, members=3, rude=0.05)
            maker.start()
            store = maker.run(14)
            data, states, start = log_start(3, Store(3)), [Store(3)], []
            for change in store.all_changes():
                data = data + write_record([3] + write_change(change))
                states.append(states[-1].copy())
                states[-1].add(Change(*change.header(), change.parts))
                start.append(len(data))
            self.assertEqual(read_log(data, 3)[1].data(), states[-1].data())
            stories = [state.data() for state in states]
            for _ in range(12):
                told = read_log(spoilt(chance, data), 3)
                if told is not None:
                    self.assertIn(told[1].data(), stories)
                    self.assertEqual(told[0], 3)
                    ended += told[1].data() != stories[-1]
        self.assertGreater(ended, 50)


if __name__ == "__main__":
    unittest.main()
