"""entry and heavy: the table in its order, and its keys above a part of all."""

import unittest

from tests.helper import (
    COUNT, ERROR, GREATEST, PACK, TOTAL, add, ask, bounds, entry, heavy, init, made_stream, merge, model, model_heavy,
    packed, stream_call, summary_bytes, true_weights, unpack,
)

TOP = 2 ** 63 - 1


def entries(number, *calls):
    """The answers of entry for the first so many places, after the calls."""
    return ask(*calls, *[entry(i) for i in range(number)])[len(calls):]


class Entry(unittest.TestCase):
    def test_every_place_of_a_table_with_equal_counts(self):
        told = entries(7, init(6), stream_call([(5, 3), (0, 1), (2, 3), (9, 7), (1, 3), (8, 1)]))
        self.assertEqual(told, [[0, 9, 7], [0, 1, 3], [0, 2, 3], [0, 5, 3], [0, 0, 1], [0, 8, 1], [-2]])

    def test_keys_are_ordered_as_numbers(self):
        told = entries(5, init(4), stream_call([(GREATEST, 2), (10, 2), (2 ** 32, 2), (9, 2)]))
        self.assertEqual(told, [[0, 9, 2], [0, 10, 2], [0, 2 ** 32, 2], [0, GREATEST, 2], [-2]])

    def test_counts_are_ordered_as_numbers(self):
        told = entries(4, init(3), stream_call([(1, 9), (2, 10), (3, 2 ** 32 - 1)]))
        self.assertEqual(told, [[0, 3, 2 ** 32 - 1], [0, 2, 10], [0, 1, 9], [-2]])

    def test_the_order_follows_the_counts(self):
        calls = [init(2), add(7, 5), add(8, 3)]
        self.assertEqual(entries(2, *calls), [[0, 7, 5], [0, 8, 3]])
        self.assertEqual(entries(2, *calls, add(8, 2)), [[0, 7, 5], [0, 8, 5]])
        self.assertEqual(entries(2, *calls, add(8, 3)), [[0, 8, 6], [0, 7, 5]])

    def test_counts_as_they_are_kept(self):
        calls = [init(2), stream_call([(1, 4), (2, 6), (3, 5)])]
        self.assertEqual(entries(3, *calls), [[0, 2, 2], [0, 3, 1], [-2]])

    def test_an_empty_table(self):
        self.assertEqual(entries(2, init(3)), [[-2], [-2]])
        self.assertEqual(entries(2, init(3), add(0, 0)), [[-2], [-2]])
        self.assertEqual(entries(2, init(1), add(7, 5), add(8, 5)), [[-2], [-2]])

    def test_far_behind_the_last(self):
        told = ask(init(2), add(7, 5), *[entry(i) for i in (1, 2, 1024, 2 ** 32, 2 ** 63, 2 ** 64 - 1)])
        self.assertEqual(told[2:], [[-2]] * 6)

    def test_changes_nothing(self):
        parts = ask(init(2), add(7, 5), PACK, entry(0), entry(1), entry(GREATEST), PACK)
        self.assertEqual(parts[2], parts[6])

    def test_against_the_model(self):
        for k in (1, 2, 3, 5, 9):
            for seed in range(40):
                pairs = made_stream(seed, 20, 9, 4)
                table = model(k, pairs)[2]
                expected = [[0, key, count] for key, count in table] + [[-2]]
                self.assertEqual(entries(len(expected), init(k), stream_call(pairs)), expected)


class Heavy(unittest.TestCase):
    # All is 10, and there is no error.
    EXACT = (init(3), add(2, 3), add(3, 2), add(1, 5))
    # All is 8, the error 3, and key 7 has the bounds 2 and 5.
    ROUGH = (init(1), add(7, 5), add(8, 3))

    def heavy(self, calls, a, b):
        return ask(*calls, heavy(a, b))[-1]

    def test_an_ordinary_part(self):
        self.assertEqual(self.heavy(self.EXACT, 1, 4), [0, 2, 1, 2])
        self.assertEqual(self.heavy(self.EXACT, 1, 3), [0, 1, 1])
        self.assertEqual(self.heavy(self.EXACT, 1, 100), [0, 3, 1, 2, 3])
        self.assertEqual(self.heavy(self.EXACT, 9, 10), [0, 0])

    def test_just_equal_to_the_part_is_not_above_it(self):
        self.assertEqual(self.heavy(self.EXACT, 3, 10), [0, 1, 1])
        self.assertEqual(self.heavy(self.EXACT, 299, 1000), [0, 2, 1, 2])
        self.assertEqual(self.heavy(self.EXACT, 301, 1000), [0, 1, 1])
        self.assertEqual(self.heavy(self.EXACT, 1, 2), [0, 0])
        self.assertEqual(self.heavy(self.EXACT, 499, 1000), [0, 1, 1])

    def test_it_is_the_high_that_counts(self):
        self.assertEqual(self.heavy(self.ROUGH, 5, 8), [0, 0])
        self.assertEqual(self.heavy(self.ROUGH, 4, 8), [0, 1, 7])
        self.assertEqual(self.heavy(self.ROUGH, 624, 1000), [0, 1, 7])
        self.assertEqual(self.heavy(self.ROUGH, 625, 1000), [0, 0])

    def test_an_error_above_the_part(self):
        self.assertEqual(self.heavy(self.ROUGH, 374, 1000), [-3])
        self.assertEqual(self.heavy(self.ROUGH, 375, 1000), [0, 1, 7])
        self.assertEqual(self.heavy(self.ROUGH, 3, 8), [0, 1, 7])
        self.assertEqual(self.heavy(self.ROUGH, 2, 8), [-3])
        self.assertEqual(self.heavy(self.ROUGH, 0, 1), [-3])
        self.assertEqual(self.heavy(self.ROUGH, 1, GREATEST), [-3])

    def test_an_error_above_the_part_and_no_keys(self):
        calls = (init(1), add(7, 5), add(8, 5))
        self.assertEqual(self.heavy(calls, 1, 3), [-3])
        self.assertEqual(self.heavy(calls, 1, 2), [0, 0])

    def test_no_part_at_all_is_refused(self):
        for calls in (self.EXACT, self.ROUGH, (init(2),)):
            for a, b in ((0, 0), (1, 0), (GREATEST, 0), (1001, 1000), (2, 1), (GREATEST, 1), (GREATEST, GREATEST - 1)):
                self.assertEqual(self.heavy(calls, a, b), [-1], (a, b))

    def test_a_of_0(self):
        self.assertEqual(self.heavy(self.EXACT, 0, 1), [0, 3, 1, 2, 3])
        self.assertEqual(self.heavy(self.EXACT, 0, GREATEST), [0, 3, 1, 2, 3])

    def test_a_equal_to_b(self):
        for part in (1, 1000, GREATEST):
            self.assertEqual(self.heavy(self.EXACT, part, part), [0, 0])
            self.assertEqual(self.heavy(self.ROUGH, part, part), [0, 0])
            self.assertEqual(self.heavy((init(1), add(7, 5)), part, part), [0, 0])

    def test_all_of_0(self):
        for calls in ((init(2),), (init(2), add(7, 0))):
            for a, b in ((0, 1), (1, 1), (1, 2), (0, GREATEST), (GREATEST, GREATEST)):
                self.assertEqual(self.heavy(calls, a, b), [0, 0], (a, b))

    def test_great_a_and_b(self):
        alone = (unpack(summary_bytes(1, TOP, 0, [(7, TOP)])),)
        self.assertEqual(self.heavy(alone, GREATEST - 1, GREATEST), [0, 1, 7])
        self.assertEqual(self.heavy(alone, GREATEST, GREATEST), [0, 0])
        nearly = (unpack(summary_bytes(1, TOP, 1, [(GREATEST, TOP - 2)])),)
        self.assertEqual(self.heavy(nearly, TOP - 2, TOP), [0, 1, GREATEST])
        self.assertEqual(self.heavy(nearly, TOP - 1, TOP), [0, 0])
        self.assertEqual(self.heavy(nearly, 1, TOP), [0, 1, GREATEST])
        self.assertEqual(self.heavy(nearly, 1, TOP + 1), [-3])
        self.assertEqual(self.heavy(nearly, GREATEST - 2, GREATEST), [0, 0])
        self.assertEqual(self.heavy(nearly, GREATEST - 3, GREATEST), [0, 1, GREATEST])

    def test_the_order_of_the_row(self):
        pairs = [(5, 3), (0, 1), (2, 3), (9, 7), (1, 3), (8, 1)]
        self.assertEqual(self.heavy((init(6), stream_call(pairs)), 0, 1), [0, 6, 9, 1, 2, 5, 0, 8])
        self.assertEqual(self.heavy((init(6), stream_call(pairs)), 1, 9), [0, 4, 9, 1, 2, 5])

    def test_a_long_row(self):
        told = self.heavy((init(1024), stream_call([(key, 1) for key in range(200)])), 1, 201)
        self.assertEqual(told, [0, 200, *range(200)])

    def test_changes_nothing(self):
        parts = ask(*self.ROUGH, PACK, heavy(3, 8), heavy(0, 1), heavy(1, 0), PACK, TOTAL, ERROR, COUNT, bounds(7))
        self.assertEqual(parts[3], parts[7])
        self.assertEqual(parts[8:], [[0, 8], [0, 3], [0, 1], [0, 1, 2, 5]])


class PromiseFour(unittest.TestCase):
    PARTS = [(a, b) for b in (1, 2, 3, 5, 8, 20, 100) for a in sorted({0, 1, b // 3, b // 2, b - 1, b})]

    def check(self, k, pairs, calls, summary):
        weights = true_weights(pairs)
        total = sum(weights.values())
        seen = []
        for a, b in self.PARTS:
            told = ask(*calls, heavy(a, b))[-1]
            self.assertEqual(told, model_heavy(*summary, a, b), (k, pairs, a, b))
            seen.append(told[0])
            if told[0] == 0:
                above = [key for key in weights if weights[key] * b > total * a]
                self.assertLessEqual(set(above), set(told[2:]), (k, pairs, a, b))
        return seen

    def test_no_key_above_the_part_is_left_out(self):
        seen = []
        for k in (1, 2, 3, 6):
            for seed in range(25):
                pairs = made_stream(seed, 30, 7, 9)
                seen += self.check(k, pairs, [init(k), stream_call(pairs)], model(k, pairs))
        self.assertEqual(set(seen), {0, -3})

    def test_nor_of_two_put_together(self):
        for k in (1, 2, 3, 6):
            for seed in range(25):
                one, other = made_stream(seed, 20, 7, 9), made_stream(seed + 1000, 20, 7, 9)
                row = packed(init(k), stream_call(other))
                calls = [init(k), stream_call(one), merge(row)]
                # What the merge gives is told by test_merge: here its own numbers are taken as they are.
                told = ask(*calls, TOTAL, ERROR, *[entry(i) for i in range(k)])[3:]
                table = [tuple(part[1:]) for part in told[2:] if part != [-2]]
                self.check(k, one + other, calls, (told[0][1], told[1][1], table))


if __name__ == "__main__":
    unittest.main()
