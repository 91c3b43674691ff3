"""Points 104 and 106 to 110: power that fails at each step of each call, and opening again."""

import copy
import random
import unittest

from kithwhole.errors import KithwholeError, PowerOff, ReplicaClosed, ReplicaOpen
from kithwhole.log import log_start, read_log, write_record
from kithwhole.replica import Replica
from kithwhole.store import Store
from tests.support import ALL_RIGHTS

T, I, ROW = (0, 1, 0), (0, 1, 1), (0, 1, 2)
START = [("table", "t"), ("column", T, "i", "integer"), ("row", T)]
CAP = (0, 1, 0)


def told(replica):
    """Turn and data of the store that the log tells that counts."""
    found = [read_log(replica.log(index), 2) for index in (0, 1)]
    best = max((each for each in found if each), key=lambda each: each[0])
    return best[0], best[1].data()


def used():
    """A replica of the founder with a seal, with changes behind it, and with an answer for it."""
    a, b = Replica(0, 2), Replica(1, 2)
    a.act(None, [("grant", 1, ALL_RIGHTS)], {0: START})
    b.take(a.answer(b.have()))
    a.act(None, [("seal",)], {})
    b.act(CAP, [], {0: [("put", ROW, I, 4)]})
    a.flush()
    a.act(None, [], {0: [("put", ROW, I, 5)]})
    return a, b


class EachStep(unittest.TestCase):
    """Each call, with power that fails after each number of steps."""

    def fails(self, replica, call, steps):
        """The call needs just so many steps; returns what it leaves for each lesser number."""
        left = []
        for few in range(steps):
            twin = copy.deepcopy(replica)
            twin.fail_after(few)
            with self.assertRaises(PowerOff):
                call(twin)
            self.assertRaises(PowerOff, twin.status)
            left.append(twin)
        for many in (steps, steps + 1, None):
            twin = copy.deepcopy(replica)
            if many is not None:
                twin.fail_after(many)
            call(twin)
            twin.status()
            if many == steps:
                self.assertRaises(PowerOff, twin.flush)
            elif many is not None:
                twin.flush()
                self.assertRaises(PowerOff, twin.flush)
        return left

    def opened(self, replica, first, second):
        twin = copy.deepcopy(replica)
        twin.power(first, second)
        self.assertRaises(ReplicaClosed, twin.status)
        self.assertIsNone(twin.open_again())
        turn, data = told(twin)
        self.assertEqual(list(twin.status()[:2]), [[len(changes) + cut for changes, cut in zip(data[3], data[0])],
                                                   list(data[0])])
        return turn, data

    def test_a_change(self):
        a, _ = used()
        before, whole = told(a), copy.deepcopy(a)
        whole.act(None, [], {0: [("row", T)]})
        after, size = told(whole), len(whole.log(0)) - len(a.log(0))
        for few, twin in enumerate(self.fails(a, lambda each: each.act(None, [], {0: [("row", T)]}), size)):
            self.assertEqual(twin.log(0), whole.log(0)[:len(a.log(0)) + few])
            self.assertEqual(self.opened(twin, 10 ** 6, 10 ** 6), before)
        self.assertEqual(self.opened(whole, 10 ** 6, 0), after)

    def test_the_pending_steps_of_a_change(self):
        a, _ = used()
        flushed = copy.deepcopy(a)
        flushed.power(0, 0)
        start, full = len(flushed.log(0)), len(a.log(0))
        for first in range(full - start + 2):
            turn, data = self.opened(a, first, 5)
            self.assertEqual((turn, len(data[3][0])), (1, 3 if start + first >= full else 2))

    def test_taking(self):
        a, b = used()
        packet = b.answer(a.have())
        before, whole = told(a), copy.deepcopy(a)
        whole.take(packet)
        self.assertNotEqual(told(whole), before)
        left = self.fails(a, lambda each: each.take(packet), len(write_record(packet)))
        for few, twin in list(enumerate(left))[::7] + [(len(left) - 1, left[-1])]:
            self.assertEqual(twin.log(0), whole.log(0)[:len(a.log(0)) + few])
            self.assertEqual(self.opened(twin, 10 ** 6, 0), before)
        self.assertEqual(self.opened(whole, 10 ** 6, 0), told(whole))

    def test_flushing_asking_and_answering(self):
        a, b = used()
        asked = b.have()
        for call in (lambda each: each.flush(), lambda each: each.have(), lambda each: each.answer(asked)):
            left, = self.fails(a, call, 1)
            self.assertEqual(self.opened(left, 10 ** 6, 0), told(a))
            self.assertEqual(len(self.opened(left, 0, 0)[1][3][0]), 2)
            whole = copy.deepcopy(a)
            call(whole)
            self.assertEqual(self.opened(whole, 0, 0), told(a))

    def test_a_flush_is_a_step_also_if_nothing_is_pending(self):
        replica = Replica(0, 1)
        replica.flush()
        replica.fail_after(2)
        replica.flush()
        replica.flush()
        self.assertRaises(PowerOff, replica.flush)

    def test_trimming(self):
        a, _ = used()
        a.flush()
        before, whole = told(a), copy.deepcopy(a)
        whole.trim()
        after = told(whole)
        self.assertEqual((before[0], after[0]), (1, 2))
        size = len(whole.log(1))
        for few, twin in enumerate(self.fails(a, lambda each: each.trim(), size + 3)):
            self.assertEqual(twin.log(1), whole.log(1)[:max(0, few - 1)])
            self.assertEqual(twin.log(0), a.log(0))
            # Without its last byte the new log tells nothing, and without the flush it may not be there.
            self.assertEqual(self.opened(twin, 0, 10 ** 6), after if few > size else before)
            self.assertEqual(self.opened(twin, 0, 0), after if few > size + 1 else before)
            self.assertEqual(self.opened(twin, 0, few - 1 if few else 0), after if few > size + 1 else before)
        for first in (0, 1, 2):
            self.assertEqual(self.opened(whole, first, 0), after)

    def test_trimming_into_a_file_with_old_bytes(self):
        a, _ = used()
        a.trim()
        a.act(None, [("seal",)], {})
        a.flush()
        # The truncation of the first file was not flushed, so its old log comes back.
        twin = copy.deepcopy(a)
        twin.power(0, 0)
        self.assertIsNotNone(read_log(twin.log(0), 2))
        twin.open_again()
        self.assertEqual((told(twin)[0], twin.log(0)), (2, []))
        before, whole = told(a), copy.deepcopy(a)
        whole.trim()
        after = told(whole)
        size = len(whole.log(0))
        for few, left in enumerate(self.fails(a, lambda each: each.trim(), size + 3)):
            for first in {0, 1, 2, few, few + 1, size + 2}:
                told_then = self.opened(left, first, 0)
                self.assertIn(told_then, (before, after))
                if few > size + 1:
                    self.assertEqual(told_then, after)

    def test_opening(self):
        a, _ = used()
        a.power(10 ** 6, 0)
        whole = copy.deepcopy(a)
        whole.open_again()
        for few, twin in enumerate(self.fails(a, lambda each: each.open_again(), 3)):
            self.assertRaises(PowerOff, twin.open_again)
            self.assertEqual(self.opened(twin, 0, 0), told(whole))
            self.assertEqual(self.opened(twin, few, few), told(whole))

    def test_opening_an_incomplete_log(self):
        a, _ = used()
        full = len(a.log(0))
        b = copy.deepcopy(a)
        b.power(0, 0)
        start = len(b.log(0))
        for more in range(full - start):
            twin = copy.deepcopy(a)
            twin.power(more, 0)
            self.assertEqual(len(twin.log(0)), start + more)
            twin.open_again()
            self.assertEqual(twin.log(0), b.log(0))
            # The truncation was flushed.
            twin.power(0, 0)
            self.assertEqual(twin.log(0), b.log(0))

    def test_opening_with_two_logs(self):
        a, _ = used()
        a.flush()
        a.trim()
        a.power(0, 0)
        self.assertEqual([read_log(a.log(index), 2)[0] for index in (0, 1)], [1, 2])
        twin = copy.deepcopy(a)
        twin.fail_after(2)
        self.assertRaises(PowerOff, twin.open_again)
        self.assertEqual([len(twin.log(index)) > 0 for index in (0, 1)], [True, True])
        a.open_again()
        self.assertEqual(([], told(a)[0]), (a.log(0), 2))
        # The other file was truncated and not flushed.
        a.power(0, 0)
        self.assertEqual(read_log(a.log(0), 2)[0], 1)
        a.open_again()
        a.power(1, 0)
        self.assertEqual(a.log(0), [])


class Empty(unittest.TestCase):
    """Replicas neither of whose files tells anything. No call leaves one so, so the files are spoilt here."""

    def spoilt(self, first, second, members=2):
        replica = Replica(0, members)
        replica.power(0, 0)
        for file, data in zip(replica._files, (first, second)):
            file.shorten(0, None)
            file.write(data, None)
            file.flush(None)
        return replica

    def test_a_new_log_is_written(self):
        start = log_start(1, Store(2))
        for first, second in (([], []), ([1, 2, 3], []), ([], [4]), (start[:-1], start[:5]), (log_start(1, Store(3)), [7])):
            replica = self.spoilt(first, second)
            replica.open_again()
            self.assertEqual((replica.log(0), replica.log(1)), (start, []))
            self.assertEqual(replica.status(), ([0, 0], [0, 0], [True] * 4))
            self.assertEqual(replica.act(None, [], {}), (0, 1))

    def test_the_steps(self):
        start = log_start(1, Store(2))
        # Two truncations, the log, its flush; then a truncation, a flush and a truncation.
        steps = 2 + len(start) + 1 + 3
        for few in range(steps + 1):
            replica = self.spoilt([9, 9, 9], [8, 8])
            replica.fail_after(few)
            if few == steps:
                replica.open_again()
                self.assertRaises(PowerOff, replica.flush)
                continue
            self.assertRaises(PowerOff, replica.open_again)
            self.assertEqual(replica.log(0), [9, 9, 9] if few < 1 else start[:max(0, few - 2)])
            self.assertEqual(replica.log(1), [8, 8] if few < 2 else [])
            twin = copy.deepcopy(replica)
            twin.power(0, 0)
            self.assertEqual(twin.log(0), start if few > len(start) + 2 else [9, 9, 9])
            self.assertEqual(twin.log(1), [8, 8])
            for first, second in ((0, 0), (few, few), (1, 0), (3, 1)):
                twin = copy.deepcopy(replica)
                twin.power(first, second)
                twin.open_again()
                self.assertEqual((twin.log(0), twin.log(1)), (start, []))

    def test_a_log_in_the_second_file_alone(self):
        start = log_start(4, Store(2))
        for first in ([], [1, 2], log_start(3, Store(2)), log_start(9, Store(3))):
            replica = self.spoilt(first, start + [5, 5])
            replica.open_again()
            self.assertEqual((replica.log(0), replica.log(1)), ([], start))
            replica.act(None, [("seal",)], {})
            replica.trim()
            self.assertEqual(read_log(replica.log(0), 2)[0], 5)
            self.assertEqual(replica.log(1), [])

    def test_both_with_the_same_turn(self):
        first, second = Store(2), Store(2)
        first.cut = [1, 0]
        second.cut = [2, 0]
        replica = self.spoilt(log_start(6, first), log_start(6, second))
        replica.open_again()
        self.assertEqual((replica.status()[1], replica.log(1)), ([1, 0], []))


class Switch(unittest.TestCase):
    def test_power_may_fail_at_any_time(self):
        a, _ = used()
        self.assertIsNone(a.power(0, 0))
        self.assertRaises(ReplicaClosed, a.status)
        self.assertIsNone(a.power(3, 3))
        a.open_again()
        self.assertEqual(a.status()[0], [2, 0])

    def test_each_file_loses_its_own_steps(self):
        a, _ = used()
        a.flush()
        a.trim()
        old, new = a.log(0), a.log(1)
        a.act(None, [], {0: [("row", T)]})
        more = len(a.log(1)) - len(new)
        for first, second in ((0, 0), (1, 0), (0, 3), (1, more), (9, more + 9)):
            twin = copy.deepcopy(a)
            twin.power(first, second)
            self.assertEqual((len(twin.log(0)) > 0, len(twin.log(1))), (first == 0, len(new) + min(second, more)))
        self.assertEqual(old, [])

    def test_a_later_failure_replaces_an_earlier_one(self):
        a, _ = used()
        a.fail_after(0)
        a.fail_after(2)
        a.flush()
        a.flush()
        a.fail_after(1)
        a.flush()
        self.assertRaises(PowerOff, a.flush)

    def test_no_failure_is_set_when_power_is_on_again(self):
        a, _ = used()
        a.fail_after(1)
        a.power(0, 0)
        a.open_again()
        for _ in range(5):
            a.flush()

    def test_a_failure_may_be_set_on_a_closed_replica(self):
        a, _ = used()
        a.power(0, 0)
        a.fail_after(3)
        a.open_again()
        self.assertRaises(PowerOff, a.flush)
        a.power(0, 0)
        self.assertIsNone(a.fail_after(2))
        self.assertRaises(PowerOff, a.open_again)
        a.power(0, 0)
        a.open_again()
        self.assertRaises(ReplicaOpen, a.open_again)

    def test_the_steps_of_several_calls_count_together(self):
        a, _ = used()
        a.fail_after(3)
        a.flush()
        a.have()
        a.flush()
        self.assertRaises(PowerOff, a.have)

    def test_power_and_log_are_never_refused(self):
        a, _ = used()
        a.fail_after(0)
        self.assertRaises(PowerOff, a.flush)
        self.assertGreater(len(a.log(0)), 0)
        self.assertEqual(a.log(1), [])
        a.power(0, 0)
        self.assertGreater(len(a.log(0)), 0)
        a.log(0).clear()
        self.assertGreater(len(a.log(0)), 0)


class Random(unittest.TestCase):
    """A flushed state is never lost, and what is there is one of the states that were."""

    def test_random_failures(self):
        failed = 0
        for seed in range(250):
            chance = random.Random(seed)
            replica = Replica(0, 2)
            replica.act(None, [("grant", 1, ALL_RIGHTS)], {0: START})
            other = Replica(1, 2)
            other.take(replica.answer(other.have()))
            other.act(CAP, [], {0: [("put", ROW, I, 8)]})
            states, lasting = [told(replica)[1]], 0
            for _ in range(15):
                try:
                    if chance.random() < 0.4:
                        replica.fail_after(chance.choice([0, 1, 2, 3, chance.randrange(200), chance.randrange(200)]))
                    lasting = self.step(chance, replica, other, states, lasting)
                    if chance.random() < 0.15:
                        raise PowerOff("now")
                except PowerOff:
                    failed += 1
                    lasting = self.again(chance, replica, states, lasting)
                self.assertEqual(replica.status()[0], self.counts(states[-1]))
        self.assertGreater(failed, 800)

    def counts(self, data):
        return [cut + len(changes) for cut, changes in zip(data[0], data[3])]

    def step(self, chance, replica, other, states, lasting):
        """One call; returns which of the states is lasting now."""
        word = chance.choice(["act", "act", "seal", "take", "flush", "have", "trim", "answer", "bad"])
        before = len(states)
        try:
            if word in ("act", "seal"):
                replica.act(None, [("seal",)] if word == "seal" else [], {0: [("put", ROW, I, chance.randrange(9))]})
            elif word == "take":
                asked = copy.deepcopy(replica).have() if chance.random() < 0.5 else Replica(0, 2).have()
                replica.take(other.answer(asked))
            elif word == "trim":
                twin = copy.deepcopy(replica)
                twin.fail_after(10 ** 9)
                twin.trim()
                states.append(told(twin)[1])
                replica.trim()
                return before
            elif word == "bad":
                replica.act((7, 7, 7), [], {})
            elif word == "answer":
                replica.answer(other.have())
            else:
                getattr(replica, word)()
        except PowerOff:
            raise
        except KithwholeError:
            return lasting
        if word in ("act", "seal", "take"):
            states.append(told(replica)[1])
            return lasting
        return len(states) - 1 if word in ("flush", "have", "answer") else lasting

    def again(self, chance, replica, states, lasting):
        while True:
            replica.power(*[chance.choice([0, 1, chance.randrange(300), 10 ** 6]) for _ in range(2)])
            if chance.random() < 0.3:
                replica.fail_after(chance.randrange(5))
            try:
                replica.open_again()
                break
            except PowerOff:
                continue
        replica.fail_after(10 ** 9)
        found = told(replica)[1]
        self.assertIn(found, states[lasting:])
        states[:] = [found]
        return 0


if __name__ == "__main__":
    unittest.main()
