"""merge: two summaries put together, its refusals, and promises 1, 2, 3 and 5 of what comes of it."""

import itertools
import unittest

from tests.helper import (
    COUNT, ERROR, GREATEST, PACK, TOTAL, add, ask, bounds, init, made_stream, merge, model, model_merged, packed,
    stream_call, summary_bytes, true_weights, unpack,
)


def merged(one, other):
    """The bytes of both put together, the first being there and the second coming."""
    told = ask(unpack(one), merge(other), PACK)
    assert told[:2] == [[0], [0]], told
    return told[2][2:]


class Merge(unittest.TestCase):
    def check(self, one, other, expected):
        one, other, expected = summary_bytes(*one), summary_bytes(*other), summary_bytes(*expected)
        self.assertEqual(merged(one, other), expected)
        self.assertEqual(merged(other, one), expected)

    def test_no_keys_in_common(self):
        together = [(7, 5), (9, 4), (8, 3), (1, 2)]
        self.check((4, 8, 0, [(7, 5), (8, 3)]), (4, 6, 0, [(9, 4), (1, 2)]), (4, 14, 0, together))

    def test_keys_in_common(self):
        self.check((3, 8, 0, [(7, 5), (8, 3)]), (3, 6, 0, [(8, 4), (1, 2)]), (3, 14, 0, [(8, 7), (7, 5), (1, 2)]))

    def test_all_keys_in_common(self):
        self.check((2, 8, 0, [(7, 5), (8, 3)]), (2, 7, 0, [(8, 4), (7, 3)]), (2, 15, 0, [(7, 8), (8, 7)]))

    def test_with_the_empty_summary(self):
        for parts in ((2, 8, 0, [(7, 5), (8, 3)]), (1, 8, 3, [(7, 2)]), (1, 10, 5, []), (2, 0, 0, [])):
            self.check(parts, (parts[0], 0, 0, []), parts)

    def test_the_errors_are_added(self):
        self.check((1, 8, 3, [(7, 2)]), (1, 12, 4, [(7, 1)]), (1, 20, 7, [(7, 3)]))
        self.check((1, 10, 5, []), (1, 12, 4, [(7, 1)]), (1, 22, 9, [(7, 1)]))

    def test_more_than_k_keys_are_kept(self):
        self.check((2, 8, 0, [(7, 5), (8, 3)]), (2, 6, 0, [(9, 4), (1, 2)]), (2, 14, 3, [(7, 2), (9, 1)]))

    def test_kept_once_after_all_are_together(self):
        # Were key 3 kept before key 1 comes, key 1 would be cut as well.
        self.check((2, 6, 0, [(1, 4), (2, 2)]), (2, 9, 0, [(3, 6), (1, 3)]), (2, 15, 2, [(1, 5), (3, 4)]))

    def test_what_is_cut_is_put_to_both_errors(self):
        self.check((1, 8, 3, [(7, 2)]), (1, 13, 4, [(8, 5)]), (1, 21, 9, [(8, 3)]))

    def test_ties_at_the_cut_all_go(self):
        self.check((2, 8, 0, [(7, 5), (8, 3)]), (2, 6, 0, [(1, 3), (9, 3)]), (2, 14, 3, [(7, 2)]))
        self.check((2, 4, 0, [(7, 2), (8, 2)]), (2, 4, 0, [(1, 2), (9, 2)]), (2, 8, 2, []))
        self.check((1, 5, 0, [(7, 5)]), (1, 5, 0, [(8, 5)]), (1, 10, 5, []))

    def test_ties_above_the_cut_stay(self):
        self.check((2, 6, 0, [(9, 5), (8, 1)]), (2, 7, 0, [(1, 5), (3, 2)]), (2, 13, 2, [(1, 3), (9, 3)]))

    def test_exactly_k_keys_are_left_alone(self):
        self.check((3, 2, 0, [(7, 1), (8, 1)]), (3, 2, 0, [(8, 1), (9, 1)]), (3, 4, 0, [(8, 2), (7, 1), (9, 1)]))

    def test_great_keys_and_counts(self):
        self.check(
            (2, 2 ** 62, 0, [(GREATEST, 2 ** 62)]), (2, 2 ** 62 - 1, 0, [(GREATEST, 2 ** 61), (0, 2 ** 61 - 1)]),
            (2, 2 ** 63 - 1, 0, [(GREATEST, 2 ** 62 + 2 ** 61), (0, 2 ** 61 - 1)]),
        )

    def test_with_its_own_bytes(self):
        for parts in ((3, 8, 0, [(7, 5), (8, 3)]), (1, 8, 3, [(7, 2)]), (1, 10, 5, []), (2, 0, 0, [])):
            k, total, error, table = parts
            self.check(parts, parts, (k, 2 * total, 2 * error, [(key, 2 * count) for key, count in table]))

    def test_more_than_once(self):
        row = summary_bytes(2, 8, 0, [(7, 5), (8, 3)])
        expected = summary_bytes(2, 17, 0, [(7, 11), (8, 6)])
        self.assertEqual(packed(init(2), merge(row), add(7, 1), merge(row)), expected)

    def test_goes_on_with_adds(self):
        row = summary_bytes(1, 8, 3, [(7, 2)])
        told = ask(init(1), add(7, 4), merge(row), add(8, 1), TOTAL, ERROR, COUNT, bounds(7), bounds(8))
        self.assertEqual(told[2:], [[0], [0], [0, 13], [0, 4], [0, 1], [0, 1, 5, 9], [0, 0, 0, 4]])


class Refused(unittest.TestCase):
    def check(self, one, other):
        one, other = summary_bytes(*one), summary_bytes(*other)
        self.assertEqual(ask(unpack(one), merge(other), PACK), [[0], [-1], [0, len(one), *one]])

    def test_a_k_that_differs(self):
        for k, other in ((1, 2), (2, 1), (3, 1024), (1024, 3), (1, 257), (257, 1), (1024, 1023)):
            self.check((k, 5, 0, [(7, 5)]), (other, 5, 0, [(7, 5)]))
            self.check((k, 0, 0, []), (other, 0, 0, []))

    def test_both_all_just_2_to_the_63(self):
        self.check((2, 2 ** 62, 0, [(7, 2 ** 62)]), (2, 2 ** 62, 0, [(7, 2 ** 62)]))
        self.check((2, 2 ** 63 - 1, 0, [(7, 2 ** 63 - 1)]), (2, 1, 0, [(7, 1)]))
        self.check((2, 1, 0, [(7, 1)]), (2, 2 ** 63 - 1, 0, [(7, 2 ** 63 - 1)]))
        self.check((2, 2 ** 63 - 1, 1, []), (2, 2 ** 63 - 1, 1, []))

    def test_both_all_just_below_2_to_the_63(self):
        one = summary_bytes(2, 2 ** 63 - 2, 0, [(7, 2 ** 63 - 2)])
        other = summary_bytes(2, 1, 0, [(8, 1)])
        expected = summary_bytes(2, 2 ** 63 - 1, 0, [(7, 2 ** 63 - 2), (8, 1)])
        self.assertEqual(merged(one, other), expected)
        self.assertEqual(merged(other, one), expected)
        full = summary_bytes(2, 2 ** 63 - 1, 1, [])
        self.assertEqual(merged(full, summary_bytes(2, 0, 0, [])), full)


class Promises(unittest.TestCase):
    """Of one that was put together from summaries of two streams, against the weights in both."""

    def check(self, k, one, other):
        rows = [packed(init(k), stream_call(pairs)) for pairs in (one, other)]
        row = merged(*rows)
        self.assertEqual(row, merged(*reversed(rows)), (k, one, other))
        total, error, table = model_merged(k, model(k, one), model(k, other))
        self.assertEqual(row, summary_bytes(k, total, error, table), (k, one, other))
        self.check_weights(k, true_weights(list(one) + list(other)), total, error, dict(table))

    def check_weights(self, k, weights, total, error, counts):
        self.assertEqual(total, sum(weights.values()))
        self.assertLessEqual((k + 1) * error + sum(counts.values()), total)
        self.assertLessEqual(len(counts), k)
        for key, weight in weights.items():
            self.assertLessEqual(counts.get(key, 0), weight)
            self.assertLessEqual(weight, counts.get(key, 0) + error)
            if (k + 1) * weight > total:
                self.assertIn(key, counts)
        there = {key: weight for key, weight in weights.items() if weight}
        if len(there) <= k:
            self.assertEqual((error, counts), (0, there))

    def test_every_two_short_streams(self):
        pairs = list(itertools.product(range(3), range(3)))
        streams = [stream for length in range(3) for stream in itertools.product(pairs, repeat=length)]
        for k in (1, 2):
            for one, other in itertools.product(streams, repeat=2):
                self.check(k, one, other)

    def test_longer_streams(self):
        for k in (1, 2, 3, 5, 10):
            for seed in range(60):
                self.check(k, made_stream(seed, 3 + seed, 12, 9), made_stream(seed + 500, 60 - seed, 9, 12))

    def test_no_more_than_k_keys_stay_exact(self):
        for k in (3, 4, 1024):
            for seed in range(20):
                self.check(k, made_stream(seed, 20, 3, 5), made_stream(seed + 500, 20, 3, 5))

    def test_great_keys_and_weights(self):
        spread = [0, 1, 2 ** 32, 2 ** 63, GREATEST]
        for k in (1, 2, 3, 5):
            for seed in range(20):
                streams = [
                    [(spread[key], 2 ** 32 - 1 - weight) for key, weight in made_stream(start, 15, 5, 2 ** 19)]
                    for start in (seed, seed + 500)
                ]
                self.check(k, *streams)

    def test_three_put_together_one_after_another(self):
        for k in (1, 2, 4):
            for seed in range(20):
                streams = [made_stream(seed + start, 15, 8, 9) for start in (0, 500, 1000)]
                rows = [packed(init(k), stream_call(pairs)) for pairs in streams]
                told = ask(unpack(rows[0]), merge(rows[1]), merge(rows[2]), PACK)
                models = [model(k, pairs) for pairs in streams]
                total, error, table = model_merged(k, model_merged(k, models[0], models[1]), models[2])
                self.assertEqual(told[-1][2:], summary_bytes(k, total, error, table))
                self.check_weights(k, true_weights(sum(streams, [])), total, error, dict(table))


if __name__ == "__main__":
    unittest.main()
