"""Promises 1, 2 and 3 against the true weights, and the answers against the words."""

import itertools
import unittest

from tests.helper import GREATEST, made_stream, model_state, state, true_weights


class Promises(unittest.TestCase):
    def check(self, k, stream, keys):
        """keys are all that the stream may hold, and more if you like."""
        told = state(k, stream, keys)
        self.assertEqual(told, model_state(k, stream, keys), (k, stream))
        self.check_promises(k, stream, keys, told)

    def check_promises(self, k, stream, keys, told):
        weights = true_weights(stream)
        [total], [error], [count] = told[:3]
        rows = dict(zip(keys, told[3:]))
        self.assertEqual(total, sum(weights.values()))
        self.assertLessEqual(count, k)
        self.assertEqual(count, sum(row[0] for row in rows.values()))
        self.check_first(weights, rows, error)
        self.check_second(k, weights, rows, total, error)
        self.check_third(k, weights, rows, total)

    def check_first(self, weights, rows, error):
        for key, (there, low, high) in rows.items():
            self.assertLessEqual(low, weights.get(key, 0))
            self.assertLessEqual(weights.get(key, 0), high)
            self.assertEqual(high - low, error)
            self.assertEqual(there, int(low > 0))

    def check_second(self, k, weights, rows, total, error):
        self.assertLessEqual((k + 1) * error + sum(row[1] for row in rows.values()), total)
        if len([key for key in weights if weights[key]]) <= k:
            self.assertEqual(error, 0)
            for key, row in rows.items():
                self.assertEqual(row[1], weights.get(key, 0))

    def check_third(self, k, weights, rows, total):
        for key, weight in weights.items():
            if (k + 1) * weight > total:
                self.assertEqual(rows[key][0], 1)

    def test_every_short_stream(self):
        pairs = list(itertools.product(range(4), range(3)))
        for k in (1, 2, 3):
            for length in range(4):
                for stream in itertools.product(pairs, repeat=length):
                    self.check(k, stream, [0, 1, 2, 3, 4])

    def test_every_order_of_uneven_weights(self):
        for k in (1, 2, 3, 4):
            for stream in itertools.permutations([(1, 9), (2, 5), (3, 5), (4, 2), (5, 1), (1, 3)]):
                self.check(k, stream, [1, 2, 3, 4, 5, 6])

    def test_longer_streams_after_each_add(self):
        for k in (1, 2, 3, 4):
            for seed in range(40):
                stream = made_stream(seed, 10, 6, 7)
                for length in range(len(stream) + 1):
                    self.check(k, stream[:length], [0, 1, 2, 3, 4, 5])

    def test_great_keys_and_weights(self):
        spread = [0, 1, 2 ** 32, 2 ** 63, GREATEST]
        for k in (1, 2, 3, 4, 5, 1024):
            for seed in range(20):
                stream = [(spread[key], weight) for key, weight in made_stream(seed, 11, 5, 2 ** 19)]
                stream = [(key, 2 ** 32 - 1 - weight) for key, weight in stream]
                self.check(k, stream, spread)

    def test_no_more_than_k_keys_stay_exact_however_often_they_come(self):
        for k in (1, 2, 3, 1024):
            for seed in range(20):
                self.check(k, made_stream(seed, 12, min(k, 3), 5), [0, 1, 2, 3])

    def test_the_third_has_its_edge(self):
        # Just a (k + 1)-th of all is not yet promised a place, one more is.
        self.check(1, [(7, 5), (8, 5)], [7, 8])
        self.assertEqual(state(1, [(7, 5), (8, 5)], [7])[3], [0, 0, 5])
        self.check(1, [(7, 6), (8, 5)], [7, 8])
        self.assertEqual(state(1, [(7, 6), (8, 5)], [7])[3], [1, 1, 6])


if __name__ == "__main__":
    unittest.main()
