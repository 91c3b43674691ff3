"""Point 101: files, their steps, and what is left when power fails."""

import random
import unittest

from kithwhole.files import File


class Files(unittest.TestCase):
    def test_an_empty_file(self):
        file = File()
        self.assertEqual((file.content(), file.pending()), ([], 0))

    def test_appending(self):
        file = File()
        self.assertEqual(file.write([1, 2, 3], None), 3)
        self.assertEqual(file.write([], None), 0)
        self.assertEqual(file.write([4], None), 1)
        self.assertEqual((file.content(), file.pending()), ([1, 2, 3, 4], 4))

    def test_appending_in_part(self):
        for steps, done in ((0, 0), (1, 1), (2, 2), (3, 3), (4, 3), (99, 3)):
            file = File()
            self.assertEqual(file.write([5, 6, 7], steps), done)
            self.assertEqual((file.content(), file.pending()), ([5, 6, 7][:done], done))

    def test_truncating(self):
        for size in range(6):
            file = File()
            file.write([1, 2, 3], None)
            self.assertEqual(file.shorten(size, None), 1)
            self.assertEqual((file.content(), file.pending()), ([1, 2, 3][:size], 4))
        file = File()
        self.assertEqual((file.shorten(0, 1), file.pending()), (1, 1))

    def test_truncating_needs_a_step(self):
        file = File()
        file.write([1, 2, 3], None)
        self.assertEqual(file.shorten(1, 0), 0)
        self.assertEqual((file.content(), file.pending()), ([1, 2, 3], 3))
        self.assertEqual((file.shorten(1, 1), file.shorten(0, 5)), (1, 1))
        self.assertEqual((file.content(), file.pending()), ([], 5))

    def test_flushing(self):
        file = File()
        self.assertEqual(file.flush(None), 1)
        file.write([1, 2], None)
        self.assertEqual((file.flush(0), file.pending()), (0, 2))
        self.assertEqual((file.flush(1), file.pending(), file.content()), (1, 0, [1, 2]))
        self.assertEqual(file.flush(7), 1)
        file.lose(0)
        self.assertEqual(file.content(), [1, 2])

    def test_what_was_not_flushed_is_lost_but_for_a_prefix(self):
        contents = [[1, 2], [1, 2, 3], [1, 2, 3, 4], [1], [1], [1, 5], [1, 5], [1, 5]]
        for steps, content in enumerate(contents):
            file = File()
            file.write([1, 2], None)
            file.flush(None)
            file.write([3, 4], None)
            file.shorten(1, None)
            file.shorten(4, None)
            file.write([5], None)
            self.assertEqual(file.pending(), 5)
            file.lose(steps)
            self.assertEqual((file.content(), file.pending()), (content, 0))

    def test_what_is_left_is_lasting(self):
        file = File()
        file.write([1, 2, 3], None)
        file.lose(2)
        file.lose(0)
        self.assertEqual(file.content(), [1, 2])
        file.write([9], None)
        file.lose(0)
        self.assertEqual(file.content(), [1, 2])
        file.shorten(0, None)
        file.lose(0)
        self.assertEqual(file.content(), [1, 2])

    def test_nothing_is_shared(self):
        file, data = File(), [1, 2]
        file.write(data, None)
        data.append(3)
        file.content().clear()
        self.assertEqual(file.content(), [1, 2])
        file.flush(None)
        file.content().append(3)
        file.write([4], None)
        file.lose(0)
        self.assertEqual(file.content(), [1, 2])
        file.write([5], None)
        file.lose(0)
        self.assertEqual((file.content(), data), ([1, 2], [1, 2, 3]))

    def test_random_steps(self):
        for seed in range(300):
            chance = random.Random(seed)
            file, states = File(), [[]]
            for _ in range(chance.randrange(12)):
                limit = chance.choice([None, None, 0, 1, 2])
                now, many = states[-1], 99 if limit is None else limit
                kind = chance.random()
                if kind < 0.5:
                    data = [chance.randrange(256) for _ in range(chance.randrange(4))]
                    self.assertEqual(file.write(data, limit), min(many, len(data)))
                    states += [now + data[:place + 1] for place in range(min(many, len(data)))]
                elif kind < 0.75:
                    size = chance.randrange(4)
                    self.assertEqual(file.shorten(size, limit), min(many, 1))
                    states += [now[:size]] * min(many, 1)
                elif kind < 0.9:
                    self.assertEqual(file.flush(limit), min(many, 1))
                    states = [now] if many else states
                else:
                    left = chance.randrange(5)
                    file.lose(left)
                    states = [states[min(left, len(states) - 1)]]
                self.assertEqual((file.content(), file.pending()), (states[-1], len(states) - 1))


if __name__ == "__main__":
    unittest.main()
