"""All twelve calls in any order, against a line written straight from the words and against the true weights."""

import unittest

from tests.helper import (
    COUNT, ERROR, GREATEST, PACK, TOTAL, add, ask, bounds, entry, heavy, init, made_numbers, made_stream, merge, model,
    model_heavy, model_merged, model_taken, stream_call, stream_row, summary_bytes, true_weights, unpack,
)

KEYS = [0, 1, 2, 3, 255, 256, 2 ** 32, GREATEST]


class ModelLine:
    """The answer of each call, by the words. The summary is what the helper's model has: all, error, table."""

    def __init__(self):
        self.k = None
        self.summary = None

    def answer(self, call):
        number, told = call[0], call[1:]
        if number == 1:
            if not 1 <= told[0] <= 1024:
                return [-1]
            self.k, self.summary = told[0], (0, 0, [])
            return [0]
        if number == 11:
            taken = model_taken(told[1:])
            if taken is None:
                return [-1]
            self.k, self.summary = taken
            return [0]
        if self.summary is None:
            return [-9]
        if number in (2, 9, 12):
            return self.change(number, told)
        return self.question(number, told)

    def change(self, number, told):
        if number == 9:
            taken = model_taken(told[1:])
            if taken is None or taken[0] != self.k or taken[1][0] + self.summary[0] >= 2 ** 63:
                return [-1]
            self.summary = model_merged(self.k, self.summary, taken[1])
            return [0]
        row = told[1:] if number == 12 else told
        weights = row[1::2]
        if len(row) % 2 or any(weight >= 2 ** 32 for weight in weights) or self.summary[0] + sum(weights) >= 2 ** 63:
            return [-1]
        for key, weight in zip(row[::2], weights):
            self.summary = model_merged(self.k, self.summary, (weight, 0, [(key, weight)] if weight else []))
        return [0]

    def question(self, number, told):
        total, error, table = self.summary
        if number == 5:
            low = dict(table).get(told[0], 0)
            return [0, int(told[0] in dict(table)), low, low + error]
        if number == 7:
            return [0, *table[told[0]]] if told[0] < len(table) else [-2]
        if number == 8:
            return model_heavy(total, error, table, *told)
        if number == 10:
            row = summary_bytes(self.k, total, error, table)
            return [0, len(row), *row]
        return [0, {3: total, 4: error, 6: len(table)}[number]]


def made_pairs(seed):
    length = seed % 7
    return [(KEYS[key], weight) for key, weight in made_stream(seed, length, len(KEYS), 6)]


def changed(row, seed):
    """The row with something about it made wrong, most of the time."""
    place = seed % len(row)
    ways = (row[:place], row + [0], row[:place] + [seed % 256] + row[place + 1:], row)
    return ways[seed // 64 % 4]


def made_call(seed, k):
    """A call, what becomes of the summary by it, and the pairs that come if it is done, None if they aren't known."""
    kind, first, second = made_numbers(seed, 3)
    other = k if first % 5 else k % 3 + 1
    pairs = made_pairs(first)
    row = summary_bytes(other, *model(other, pairs))
    part = (second % 13, first % 13)
    key = KEYS[first % len(KEYS)]
    wild = (0, 2 ** 32, GREATEST)[second % 3]
    return (
        (init(other), "new", []), (init(wild), "new", None), (add(key, second % 9), "more", [(key, second % 9)]),
        (add(key, wild), "more", None),
        (TOTAL, "same", []), (ERROR, "same", []), (COUNT, "same", []), (bounds(key), "same", []),
        (entry(first % 4), "same", []), (entry(wild), "same", []), (heavy(*sorted(part)), "same", []),
        (heavy(*part), "same", []), (heavy(wild, GREATEST), "same", []), (merge(row), "more", pairs),
        (merge(changed(row, second)), "more", None), (PACK, "same", []), (unpack(row), "new", pairs),
        (unpack(changed(row, second)), "new", None), (stream_call(pairs), "more", pairs),
        (stream_call(pairs + pairs), "more", pairs + pairs), (stream_row([key] * (first % 6)), "more", None),
    )[kind % 21]


class AnyOrder(unittest.TestCase):
    def test_as_the_words_have_it(self):
        seen = set()
        for seed in range(2000):
            k = seed % 3 + 1
            calls = [made_call(number, k)[0] for number in made_numbers(seed, 20)]
            line = ModelLine()
            expected = [line.answer(call) for call in calls]
            self.assertEqual(ask(*calls), expected, calls)
            seen |= {(call[0], told[0]) for call, told in zip(calls, expected)}
        refusals = {1: [-1], 2: [-1], 7: [-2], 8: [-1, -3], 9: [-1], 11: [-1], 12: [-1]}
        for number in range(1, 13):
            self.assertIn((number, 0), seen)
            for refusal in refusals.get(number, []) + ([] if number in (1, 11) else [-9]):
                self.assertIn((number, refusal), seen)

    def test_a_refusal_changes_nothing(self):
        for seed in range(1000):
            k = seed % 3 + 1
            calls = [made_call(number, k)[0] for number in made_numbers(seed, 19)]
            told = ask(*calls, PACK)
            done = [call for call, answer in zip(calls, told) if answer[0] >= 0]
            self.assertEqual(ask(*done, PACK)[-1], told[-1], calls)


class TrueWeights(unittest.TestCase):
    """Promises 1 to 4 after any calls whose stream is known."""

    def test_after_all_calls(self):
        errors = []
        for seed in range(1500):
            k = seed % 3 + 1
            made = [made_call(number, k) for number in made_numbers(seed, 30)]
            made = [(init(k), "new", [])] + [one for one in made if one[2] is not None][:9]
            calls = [call for call, effect, pairs in made]
            asked = [TOTAL, ERROR, *[bounds(key) for key in KEYS]]
            told = ask(*calls, *asked)
            came = self.came(made, told)
            [total], [error] = [part[1:] for part in told[len(calls):len(calls) + 2]]
            row = ask(*calls, PACK)[-1]
            self.check(row[2] + 256 * row[3], came, total, error, dict(zip(KEYS, told[len(calls) + 2:])))
            self.check_heavy(calls, came, total)
            errors.append(error)
        self.assertGreater(len([error for error in errors if error]), 100)

    def came(self, made, told):
        came = []
        for (call, effect, pairs), answer in zip(made, told):
            if effect == "new" and answer == [0]:
                came = []
            if answer == [0]:
                came = came + pairs
        return true_weights(came)

    def check(self, k, weights, total, error, rows):
        self.assertEqual(total, sum(weights.values()))
        self.assertLessEqual((k + 1) * error + sum(low for zero, there, low, high in rows.values()), total)
        exact = len([key for key in weights if weights[key]]) <= k
        for key, (zero, there, low, high) in rows.items():
            weight = weights.get(key, 0)
            self.assertTrue(low <= weight <= high)
            self.assertEqual(high, low + error)
            if (k + 1) * weight > total:
                self.assertEqual(there, 1)
            if exact:
                self.assertEqual((low, high), (weight, weight))

    def check_heavy(self, calls, weights, total):
        parts = [(1, 2), (1, 3), (2, 5), (3, 4), (0, 1), (1, 1), (1, 10), (7, 8)]
        for (a, b), told in zip(parts, ask(*calls, *[heavy(a, b) for a, b in parts])[len(calls):]):
            self.assertNotEqual(told[0], -1)
            if told[0] == 0:
                above = [key for key in weights if weights[key] * b > total * a]
                self.assertLessEqual(set(above), set(told[2:]))


if __name__ == "__main__":
    unittest.main()
