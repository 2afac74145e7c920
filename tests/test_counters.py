"""What twenty calls and rows of 400 numbers are too few to show: long streams, and tables of 1,024 keys."""

import unittest

from heavykeys.counters import Summary
from heavykeys.packed import pack, unpack
from tests.helper import GREATEST, made_stream, model, model_merged, summary_bytes, true_weights


def summary_of(k, stream):
    summary = Summary(k)
    for key, weight in stream:
        summary.add(key, weight)
    return summary


class LongStreams(unittest.TestCase):
    def check(self, k, stream):
        summary = summary_of(k, stream)
        total, error, table = model(k, stream)
        self.assertEqual((summary.total, summary.error, summary.table), (total, error, dict(table)))
        self.check_promises(k, summary, true_weights(stream))

    def check_promises(self, k, summary, weights):
        for key, weight in weights.items():
            self.assertLessEqual(summary.low(key), weight)
            self.assertLessEqual(weight, summary.high(key))
            if (k + 1) * weight > summary.total:
                self.assertIn(key, summary.table)
        self.assertLessEqual(len(summary.table), k)
        self.assertLessEqual((k + 1) * summary.error + sum(summary.table.values()), summary.total)

    def test_many_keys_in_few_counters(self):
        for k in (1, 2, 5, 17):
            for seed in range(5):
                self.check(k, made_stream(seed, 400, 40, 9))

    def test_a_few_heavy_keys_among_many(self):
        for k in (1, 3, 8):
            light = made_stream(k, 300, 200, 3)
            heavy = [(1000 + place % 3, 7) for place in range(300)]
            self.check(k, [pair for both in zip(light, heavy) for pair in both])

    def test_1024_keys_are_exact_and_one_more_is_too_many(self):
        stream = [(key, key % 3 + 1) for key in range(1024)]
        full = summary_of(1024, stream)
        self.assertEqual((full.error, full.table), (0, dict(stream)))
        stream.append((5000, 1))
        self.check(1024, stream)
        self.assertEqual(summary_of(1024, stream).error, 1)


class ManyKeys(unittest.TestCase):
    def test_1024_keys_are_told_as_bytes_and_taken_from_them(self):
        full = summary_of(1024, [(GREATEST - key, key % 5 + 1) for key in range(1024)])
        row = pack(full)
        self.assertEqual(len(row), 24 + 16 * 1024)
        self.assertEqual(row, summary_bytes(1024, *model(1024, list(full.table.items()))))
        again = unpack(row)
        self.assertEqual((again.k, again.total, again.error, again.table), (1024, full.total, 0, full.table))

    def test_1025_keys_are_no_summarys(self):
        table = [(key, 1) for key in range(1025)]
        self.assertIsNone(unpack(summary_bytes(1024, 1025, 0, table)))
        self.assertIsNone(unpack(summary_bytes(1025, 1025, 0, table)))

    def test_two_full_tables_are_put_together(self):
        streams = [[(key * step, key % 7 + 1) for key in range(1024)] for step in (2, 3)]
        one, other = [summary_of(1024, stream) for stream in streams]
        one.merge(other)
        total, error, table = model_merged(1024, model(1024, streams[0]), model(1024, streams[1]))
        self.assertGreater(error, 0)
        self.assertEqual((one.total, one.error, one.table), (total, error, dict(table)))


if __name__ == "__main__":
    unittest.main()
