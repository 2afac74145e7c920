"""pack and unpack, and which bytes are a summary's."""

import unittest

from tests.helper import (
    COUNT, ERROR, GREATEST, PACK, TOTAL, add, ask, bounds, entry, init, made_numbers, made_stream, merge, model,
    model_taken, packed, stream_call, summary_bytes, unpack,
)

TOP = 2 ** 63 - 1

# Each as k, all, the error and the table.
GOOD = {
    "the empty one of the least k": (1, 0, 0, []),
    "the empty one of the greatest k": (1024, 0, 0, []),
    "as many keys as k, 1": (1, 5, 0, [(7, 5)]),
    "as many keys as k, 2": (2, 8, 0, [(7, 5), (8, 3)]),
    "as many keys as go into a row": (23, 23 * 24 // 2, 0, [(key, 23 - key) for key in range(23)]),
    "fewer keys than k": (1024, 8, 0, [(7, 5), (8, 3)]),
    "the least key, the greatest, the least count": (2, 2, 0, [(0, 1), (GREATEST, 1)]),
    "equal counts, the least key first": (4, 12, 0, [(2, 3), (10, 3), (256, 3), (65535, 3)]),
    "the greatest count first, whatever the keys": (3, 12, 0, [(9, 5), (1, 4), (5, 3)]),
    "the greatest all, in one count": (1, TOP, 0, [(7, TOP)]),
    "the greatest all, in two counts": (2, TOP, 0, [(7, 2 ** 62), (8, 2 ** 62 - 1)]),
    "the greatest all, in the error": (1, TOP, 2 ** 62 - 1, [(7, 1)]),
    "error and counts come to all, k 1": (1, 8, 3, [(7, 2)]),
    "error and counts come to all, k 3": (3, 19, 3, [(7, 4), (2, 2), (3, 1)]),
    "error and counts come to all, k 1024": (1024, 1027, 1, [(7, 2)]),
    "error and counts come to less than all": (1, 9, 3, [(7, 2)]),
    "an error and no keys": (1, 10, 5, []),
    "a small error, no keys and a great all": (1, TOP, 1, []),
}

BAD = {
    "a k of 0": (0, 0, 0, []),
    "a k of 0, with an error": (0, 5, 5, []),
    "a k of 1025": (1025, 0, 0, []),
    "a k of 1025, with a key": (1025, 5, 0, [(7, 5)]),
    "a k of which two bytes alone would do": (65537, 5, 0, [(7, 5)]),
    "the greatest k of four bytes": (2 ** 32 - 1, 0, 0, []),
    "more keys than k, 1": (1, 8, 0, [(7, 5), (8, 3)]),
    "more keys than k, 2": (2, 9, 0, [(7, 5), (8, 3), (9, 1)]),
    "more keys than k, with an error": (1, 100, 1, [(7, 5), (8, 3)]),
    "more keys than k, all that go into a row": (22, 23 * 24 // 2, 0, [(key, 23 - key) for key in range(23)]),
    "a key twice": (3, 8, 0, [(7, 5), (7, 3)]),
    "a key twice, not one behind the other": (3, 12, 0, [(7, 5), (8, 4), (7, 3)]),
    "a key twice with equal counts": (3, 8, 0, [(7, 4), (7, 4)]),
    "a key twice, where the last alone comes to all": (3, 3, 0, [(7, 5), (7, 3)]),
    "a key twice, with an error": (3, 100, 1, [(7, 5), (7, 3)]),
    "a count of 0": (3, 5, 0, [(7, 5), (8, 0)]),
    "a count of 0 alone": (3, 0, 0, [(7, 0)]),
    "a count of 0, with an error": (3, 100, 1, [(7, 5), (8, 0)]),
    "the least count first": (3, 8, 0, [(7, 3), (8, 5)]),
    "a count too late": (3, 12, 0, [(7, 5), (8, 3), (9, 4)]),
    "the greatest key first among equal counts": (3, 8, 0, [(8, 4), (7, 4)]),
    "keys out of order among the last": (3, 11, 0, [(9, 5), (8, 3), (7, 3)]),
    "keys in the order of their first bytes": (3, 8, 0, [(256, 4), (1, 4)]),
    "all of 2^63": (1, 2 ** 63, 0, [(7, 2 ** 63)]),
    "all of 2^63, in the error": (1, 2 ** 63, 2 ** 62, []),
    "all of 2^63, most of it nowhere": (1, 2 ** 63, 1, []),
    "the greatest all of eight bytes": (1, GREATEST, 0, [(7, GREATEST)]),
    "error and counts above all, k 1": (1, 7, 3, [(7, 2)]),
    "error and counts above all, k 3": (3, 18, 3, [(7, 4), (2, 2), (3, 1)]),
    "error and counts above all, k 1024": (1024, 1026, 1, [(7, 2)]),
    "the error above all": (1, 9, 5, []),
    "error times k + 1 at 2^64": (1, 0, 2 ** 63, []),
    "the greatest error": (1024, TOP, GREATEST, []),
    "no error and counts below all": (1, 6, 0, [(7, 5)]),
    "no error, no keys and an all": (1, 1, 0, []),
    "no error and counts above all": (1, 4, 0, [(7, 5)]),
    "counts that come to 2^64": (2, 0, 0, [(7, 2 ** 63), (8, 2 ** 63)]),
    "counts that come to 2^64, with an error": (2, 100, 1, [(7, 2 ** 63), (8, 2 ** 63)]),
}

# How many keys are told, and the table that is there.
WRONG_NUMBERS = [
    (0, [(7, 5)]), (1, []), (2, [(7, 5)]), (3, [(7, 5), (8, 3)]), (1, [(7, 5), (8, 3)]), (257, [(7, 5)]),
    (2 ** 31 + 1, [(7, 5)]), (2 ** 32 - 1, []), (2 ** 32 - 1, [(7, 5)]),
]


def wrong_rows():
    """Bytes that are no summary's, each with a k that a summary to merge with may have."""
    for name, parts in BAD.items():
        yield name, min(max(parts[0], 1), 1024), summary_bytes(*parts)
    for number, table in WRONG_NUMBERS:
        total = sum(count for key, count in table)
        yield f"{number} keys told of {table}", 3, summary_bytes(3, total, 0, table, number=number)
    good = summary_bytes(3, 8, 0, [(7, 5), (8, 3)])
    for length in range(len(good)):
        yield f"{length} bytes of {len(good)}", 3, good[:length]
    for more in ([0], [1], [0] * 8, [0] * 16, good[24:40], good, [0] * (400 - len(good))):
        yield f"{len(more)} bytes too many", 3, good + more
    empty = summary_bytes(1, 0, 0, [])
    for length in range(len(empty)):
        yield f"{length} bytes of the empty one", 1, empty[:length]
    for more in ([0], [0] * 16, [255] * 376):
        yield f"{len(more)} bytes behind the empty one", 1, empty + more
    for length in (1, 8, 24, 40, 399, 400):
        for byte in (0, 1, 255):
            yield f"{byte}, {length} times", 1, [byte] * length


class Pack(unittest.TestCase):
    def test_the_empty_summary(self):
        self.assertEqual(ask(init(1), PACK)[1], [0, 24, 1] + [0] * 23)
        self.assertEqual(ask(init(1024), PACK)[1], [0, 24, 0, 4] + [0] * 22)
        self.assertEqual(ask(init(258), PACK)[1], [0, 24, 2, 1] + [0] * 22)

    def test_number_by_number(self):
        row = packed(init(2), add(7, 5), add(513, 262), add(9, 2))
        self.assertEqual(row, [
            2, 0, 0, 0,
            2, 0, 0, 0,
            13, 1, 0, 0, 0, 0, 0, 0,
            2, 0, 0, 0, 0, 0, 0, 0,
            1, 2, 0, 0, 0, 0, 0, 0,
            4, 1, 0, 0, 0, 0, 0, 0,
            7, 0, 0, 0, 0, 0, 0, 0,
            3, 0, 0, 0, 0, 0, 0, 0,
        ])

    def test_a_key_of_eight_bytes(self):
        row = packed(init(1), add(0x0123456789ABCDEF, 0xFEDCBA98))
        self.assertEqual(row[24:], [0xEF, 0xCD, 0xAB, 0x89, 0x67, 0x45, 0x23, 1, 0x98, 0xBA, 0xDC, 0xFE, 0, 0, 0, 0])
        self.assertEqual(packed(init(1), add(GREATEST, 1))[24:], [255] * 8 + [1] + [0] * 7)

    def test_the_tables_order(self):
        row = packed(init(5), stream_call([(300, 3), (2, 3), (9, 7), (256, 3), (0, 1)]))
        self.assertEqual(row, summary_bytes(5, 17, 0, [(9, 7), (2, 3), (256, 3), (300, 3), (0, 1)]))

    def test_changes_nothing(self):
        parts = ask(init(1), add(7, 5), add(8, 3), PACK, PACK, TOTAL, ERROR, COUNT, bounds(7), entry(0))
        self.assertEqual(parts[3], parts[4])
        self.assertEqual(parts[5:], [[0, 8], [0, 3], [0, 1], [0, 1, 2, 5], [0, 7, 2]])

    def test_a_row_longer_than_what_may_be_handed_in(self):
        pairs = [(key, 1000 - key) for key in range(400)]
        row = packed(init(1024), stream_call(pairs[:200]), stream_call(pairs[200:]))
        self.assertEqual(len(row), 24 + 16 * 400)
        self.assertEqual(row, summary_bytes(1024, *model(1024, pairs)))

    def test_against_the_model(self):
        for k in (1, 2, 3, 7):
            for seed in range(30):
                pairs = made_stream(seed, 25, 12, 9)
                self.assertEqual(packed(init(k), stream_call(pairs)), summary_bytes(k, *model(k, pairs)))


class Unpack(unittest.TestCase):
    def test_what_is_a_summarys_is_taken_with_no_summary_there(self):
        for name, parts in GOOD.items():
            with self.subTest(name):
                row = summary_bytes(*parts)
                self.assertEqual(ask(unpack(row), PACK), [[0], [0, len(row), *row]])

    def test_what_is_a_summarys_takes_the_place_of_another(self):
        for name, parts in GOOD.items():
            with self.subTest(name):
                row = summary_bytes(*parts)
                told = ask(init(2), stream_call([(1, 4), (2, 6), (3, 5)]), unpack(row), PACK)
                self.assertEqual(told[2:], [[0], [0, len(row), *row]])

    def test_each_part_of_it_is_there(self):
        row = summary_bytes(3, 20, 3, [(7, 4), (2, 2), (3, 1)])
        told = ask(unpack(row), TOTAL, ERROR, COUNT, bounds(7), bounds(3), bounds(9), entry(0), entry(2), entry(3))
        self.assertEqual(told, [
            [0], [0, 20], [0, 3], [0, 3], [0, 1, 4, 7], [0, 1, 1, 4], [0, 0, 0, 3], [0, 7, 4], [0, 3, 1], [-2],
        ])

    def test_numbers_of_eight_bytes(self):
        row = [1, 0, 0, 0, 1, 0, 0, 0]
        row += [0x88, 0x77, 0x66, 0x55, 0x44, 0x33, 0x22, 0x11]
        row += [0x08, 0x07, 0x06, 0x05, 0x04, 0x03, 0x02, 0x01]
        row += [0xF8, 0xF7, 0xF6, 0xF5, 0xF4, 0xF3, 0xF2, 0xF1]
        row += [0x18, 0x17, 0x16, 0x15, 0x14, 0x13, 0x12, 0x0F]
        told = ask(unpack(row), TOTAL, ERROR, entry(0), PACK)
        self.assertEqual(told[:4], [
            [0], [0, 0x1122334455667788], [0, 0x0102030405060708], [0, 0xF1F2F3F4F5F6F7F8, 0x0F12131415161718],
        ])
        self.assertEqual(told[4], [0, 40, *row])

    def test_its_k_holds_from_now_on(self):
        row = summary_bytes(1, 5, 0, [(7, 5)])
        self.assertEqual(ask(init(9), unpack(row), add(8, 3), COUNT, ERROR)[2:], [[0], [0, 1], [0, 3]])
        row = summary_bytes(2, 5, 0, [(7, 5)])
        self.assertEqual(ask(init(1), unpack(row), add(8, 3), COUNT, ERROR)[2:], [[0], [0, 2], [0, 0]])
        row = summary_bytes(1024, 0, 0, [])
        self.assertEqual(
            ask(unpack(row), stream_call([(key, 1) for key in range(200)]), COUNT, ERROR), [[0], [0], [0, 200], [0, 0]]
        )

    def test_goes_on_as_the_one_that_was_packed(self):
        for k in (1, 2, 3, 5):
            for seed in range(20):
                pairs = made_stream(seed, 30, 9, 6)
                for cut in (0, 1, 7, 15, 29, 30):
                    row = packed(init(k), stream_call(pairs[:cut]))
                    self.assertEqual(
                        packed(unpack(row), stream_call(pairs[cut:])), packed(init(k), stream_call(pairs))
                    )

    def test_twice_and_then_a_fresh_one(self):
        row = summary_bytes(2, 8, 0, [(7, 5), (8, 3)])
        self.assertEqual(ask(unpack(row), add(7, 1), unpack(row), PACK)[2:], [[0], [0, len(row), *row]])
        self.assertEqual(ask(unpack(row), init(2), TOTAL, COUNT)[1:], [[0], [0, 0], [0, 0]])


class NoSummarys(unittest.TestCase):
    def test_unpack_with_no_summary_there(self):
        for name, k, row in wrong_rows():
            with self.subTest(name):
                self.assertEqual(ask(unpack(row), TOTAL, PACK), [[-1], [-9], [-9]])

    def test_unpack_leaves_the_summary_that_is_there(self):
        before = packed(init(2), stream_call([(1, 4), (2, 6), (3, 5)]))
        for name, k, row in wrong_rows():
            with self.subTest(name):
                told = ask(init(2), stream_call([(1, 4), (2, 6), (3, 5)]), unpack(row), PACK)
                self.assertEqual(told[2:], [[-1], [0, len(before), *before]])

    def test_merge_with_the_empty_summary(self):
        for name, k, row in wrong_rows():
            with self.subTest(name):
                self.assertEqual(ask(init(k), merge(row), PACK)[1:], [[-1], [0, 24, *summary_bytes(k, 0, 0, [])]])

    def test_merge_leaves_the_summary_that_is_there(self):
        for name, k, row in wrong_rows():
            with self.subTest(name):
                parts = ask(init(k), stream_call([(1, 4), (2, 6), (3, 5)]), PACK, merge(row), PACK)
                self.assertEqual(parts[3], [-1])
                self.assertEqual(parts[2], parts[4])

    def test_merge_takes_what_unpack_takes(self):
        for name, parts in GOOD.items():
            with self.subTest(name):
                row = summary_bytes(*parts)
                self.assertEqual(ask(init(parts[0]), merge(row), PACK)[1:], [[0], [0, len(row), *row]])

    def test_rows_of_400_numbers(self):
        self.assertEqual(ask(unpack([0] * 400), TOTAL), [[-1], [-9]])
        self.assertEqual(ask(init(3), merge([255] * 400), TOTAL), [[0], [-1], [0, 0]])

    def test_what_is_behind_a_refused_row_is_still_told(self):
        self.assertEqual(ask(unpack([3, 4, 6]), init(1), merge([1, 5]), TOTAL), [[-1], [0], [-1], [0, 0]])


class ChangedBytes(unittest.TestCase):
    def check(self, row):
        expected = [-1] if model_taken(row) is None else [0]
        self.assertEqual(ask(unpack(row))[0], expected, row)
        if expected == [0]:
            self.assertEqual(packed(unpack(row)), row)
        return expected == [0]

    def test_one_byte_changed(self):
        taken = []
        for k, pairs in ((2, [(7, 5), (8, 3)]), (3, [(7, 5), (8, 3), (9, 3), (1, 1)]), (1, [(7, 5), (8, 5)])):
            good = packed(init(k), stream_call(pairs))
            for place in range(len(good)):
                for byte in (0, 1, 2, 3, 4, 5, 6, 7, 8, 127, 128, 255):
                    taken.append(self.check(good[:place] + [byte] + good[place + 1:]))
        self.assertIn(True, taken)
        self.assertIn(False, taken)

    def test_small_numbers_all_through(self):
        taken = []
        for seed in range(3000):
            numbers = made_numbers(seed, 9)
            table = [(numbers[place] % 4, numbers[place + 1] % 4) for place in range(3, 3 + 2 * (numbers[0] % 4), 2)]
            counted = sum(count for key, count in table)
            error = numbers[2] % 3
            k = numbers[1] % 4
            total = max((k + 1) * error + counted + numbers[1] // 4 % 3 - 1, 0)
            taken.append(self.check(summary_bytes(k, total, error, table)))
        self.assertGreater(taken.count(True), 100)
        self.assertGreater(taken.count(False), 100)


if __name__ == "__main__":
    unittest.main()
