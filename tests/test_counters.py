"""What twenty calls are too few to show: long streams, the greatest k, and the greatest sum of all weights."""

import unittest

from heavykeys.counters import Summary
from heavykeys.summary import answer_add
from tests.helper import made_stream, model, true_weights


def summary_of(k, stream):
    summary = Summary(k)
    for key, weight in stream:
        summary.add(key, weight)
    return summary


class LongStreams(unittest.TestCase):
    def check(self, k, stream):
        summary = summary_of(k, stream)
        total, error, table = model(k, stream)
        self.assertEqual((summary.total, summary.error, summary.table), (total, error, dict(table)))
        self.check_promises(k, summary, true_weights(stream))

    def check_promises(self, k, summary, weights):
        for key, weight in weights.items():
            self.assertLessEqual(summary.low(key), weight)
            self.assertLessEqual(weight, summary.high(key))
            if (k + 1) * weight > summary.total:
                self.assertIn(key, summary.table)
        self.assertLessEqual(len(summary.table), k)
        self.assertLessEqual((k + 1) * summary.error + sum(summary.table.values()), summary.total)

    def test_many_keys_in_few_counters(self):
        for k in (1, 2, 5, 17):
            for seed in range(5):
                self.check(k, made_stream(seed, 400, 40, 9))

    def test_a_few_heavy_keys_among_many(self):
        for k in (1, 3, 8):
            light = made_stream(k, 300, 200, 3)
            heavy = [(1000 + place % 3, 7) for place in range(300)]
            self.check(k, [pair for both in zip(light, heavy) for pair in both])

    def test_1024_keys_are_exact_and_one_more_is_too_many(self):
        stream = [(key, key % 3 + 1) for key in range(1024)]
        full = summary_of(1024, stream)
        self.assertEqual((full.error, full.table), (0, dict(stream)))
        stream.append((5000, 1))
        self.check(1024, stream)
        self.assertEqual(summary_of(1024, stream).error, 1)


class TooMuch(unittest.TestCase):
    def near_the_end(self, room):
        summary = Summary(2)
        summary.add(7, 5)
        summary.total = 2 ** 63 - room
        return summary

    def test_all_may_come_to_just_below_2_to_the_63(self):
        summary = self.near_the_end(4)
        self.assertEqual(answer_add(summary, 7, 3), [0])
        self.assertEqual((summary.total, summary.table), (2 ** 63 - 1, {7: 8}))
        self.assertEqual(answer_add(summary, 8, 0), [0])

    def test_all_that_would_come_to_2_to_the_63_is_refused(self):
        for weight in (4, 5, 2 ** 32 - 1, 2 ** 32):
            summary = self.near_the_end(4)
            self.assertEqual(answer_add(summary, 7, weight), [-1])
            self.assertEqual(answer_add(summary, 8, weight), [-1])
            self.assertEqual((summary.total, summary.error, summary.table), (2 ** 63 - 4, 0, {7: 5}))


if __name__ == "__main__":
    unittest.main()
