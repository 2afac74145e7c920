"""stream, and all that comes near 2^63 by it or by add."""

import unittest

from tests.helper import (
    COUNT, ERROR, GREATEST, PACK, TOTAL, add, ask, bounds, init, made_stream, model, packed, stream_call, stream_row,
    summary_bytes, unpack,
)

TOP_WEIGHT = 2 ** 32 - 1


class Stream(unittest.TestCase):
    def test_an_ordinary_row(self):
        told = ask(init(2), stream_row([7, 5, 8, 1, 7, 4]), TOTAL, ERROR, COUNT, bounds(7), bounds(8))
        self.assertEqual(told, [[0], [0], [0, 10], [0, 0], [0, 2], [0, 1, 9, 9], [0, 1, 1, 1]])

    def test_an_empty_row(self):
        for calls in ([init(2)], [init(1), add(7, 5), add(8, 3)]):
            before = packed(*calls)
            self.assertEqual(ask(*calls, stream_row([]), PACK)[len(calls):], [[0], [0, len(before), *before]])

    def test_each_comes_one_behind_another(self):
        # Kept after each key, and not once at the end: key 8 takes from key 7 before 7 comes again.
        told = ask(init(1), stream_row([7, 2, 8, 3, 7, 2]), TOTAL, ERROR, COUNT, bounds(7), bounds(8))
        self.assertEqual(told[2:], [[0, 7], [0, 3], [0, 1], [0, 1, 1, 4], [0, 0, 0, 3]])

    def test_a_key_that_comes_more_than_once(self):
        self.assertEqual(packed(init(1), stream_row([7, 2, 7, 3, 7, 4])), summary_bytes(1, 9, 0, [(7, 9)]))

    def test_weights_of_0(self):
        self.assertEqual(packed(init(1), stream_row([7, 0, 8, 0])), summary_bytes(1, 0, 0, []))
        self.assertEqual(packed(init(1), stream_row([7, 0, 8, 3, 9, 0, 8, 0])), summary_bytes(1, 3, 0, [(8, 3)]))

    def test_great_keys_and_weights(self):
        row = [GREATEST, TOP_WEIGHT, 0, TOP_WEIGHT, GREATEST, TOP_WEIGHT]
        expected = summary_bytes(2, 3 * TOP_WEIGHT, 0, [(GREATEST, 2 * TOP_WEIGHT), (0, TOP_WEIGHT)])
        self.assertEqual(packed(init(2), stream_row(row)), expected)

    def test_a_row_of_400_numbers(self):
        pairs = made_stream(3, 200, 50, 9)
        for k in (1, 10, 49, 50, 1024):
            self.assertEqual(packed(init(k), stream_call(pairs)), summary_bytes(k, *model(k, pairs)))

    def test_several_rows(self):
        pairs = made_stream(5, 200 * 18, 2000, 9)
        rows = [stream_call(pairs[start:start + 200]) for start in range(0, len(pairs), 200)]
        for k in (1, 30, 1024):
            self.assertEqual(packed(init(k), *rows), summary_bytes(k, *model(k, pairs)))

    def test_the_same_as_the_adds_one_behind_another(self):
        for k in (1, 2, 3, 5):
            for seed in range(40):
                pairs = made_stream(seed, 18, 7, 6)
                adds = [add(key, weight) for key, weight in pairs]
                self.assertEqual(packed(init(k), stream_call(pairs)), packed(init(k), *adds))


class Refused(unittest.TestCase):
    def check(self, row):
        told = ask(init(1), add(7, 5), add(8, 3), stream_row(row), PACK)
        expected = summary_bytes(1, 8, 3, [(7, 2)])
        self.assertEqual(told[3:], [[-1], [0, len(expected), *expected]], row)

    def test_an_odd_count(self):
        for row in ([7], [0], [7, 1, 8], [7, 0, 7], [7, 1] * 100 + [7], [1] * 399, [GREATEST]):
            self.check(row)

    def test_a_weight_that_is_too_great_in_any_place(self):
        for weight in (2 ** 32, 2 ** 32 + 1, 2 ** 63, GREATEST):
            for place in range(4):
                row = [7, 1, 8, 2, 9, 0, 7, 3]
                row[2 * place + 1] = weight
                self.check(row)
        self.check([7, 1] * 199 + [7, 2 ** 32])
        self.check([7, 2 ** 32] + [7, 1] * 199)

    def test_a_great_key_is_no_weight(self):
        self.assertEqual(ask(init(1), stream_row([2 ** 32, 1, GREATEST, 2]))[1], [0])

    def test_what_is_behind_a_refused_row_is_still_told(self):
        self.assertEqual(ask(init(1), stream_row([3, 3, 3]), TOTAL, add(7, 2), TOTAL)[1:], [[-1], [0, 0], [0], [0, 2]])


class TooMuch(unittest.TestCase):
    """A summary is taken from bytes whose all leaves little room below 2^63."""

    def near(self, room):
        return unpack(summary_bytes(2, 2 ** 63 - room, 0, [(7, 2 ** 63 - room)]))

    def check_taken(self, room, call, table, error=0):
        expected = summary_bytes(2, 2 ** 63 - 1, error, table)
        self.assertEqual(ask(self.near(room), call, PACK)[1:], [[0], [0, len(expected), *expected]])

    def check_refused(self, room, call):
        before = packed(self.near(room))
        self.assertEqual(ask(self.near(room), call, PACK)[1:], [[-1], [0, len(before), *before]], call)

    def test_all_may_come_to_just_below_2_to_the_63(self):
        self.check_taken(4, add(7, 3), [(7, 2 ** 63 - 1)])
        self.check_taken(4, stream_row([7, 3]), [(7, 2 ** 63 - 1)])
        self.check_taken(4, stream_row([8, 1, 7, 1, 8, 1]), [(7, 2 ** 63 - 3), (8, 2)])
        self.check_taken(4, stream_row([8, 2, 9, 1]), [(7, 2 ** 63 - 5), (8, 1)], error=1)
        self.check_taken(2 ** 32, add(7, TOP_WEIGHT), [(7, 2 ** 63 - 1)])
        self.check_taken(2 * TOP_WEIGHT + 1, stream_row([7, TOP_WEIGHT] * 2), [(7, 2 ** 63 - 1)])

    def test_all_that_would_come_to_2_to_the_63_is_refused(self):
        for key in (7, 8):
            for weight in (4, 5, TOP_WEIGHT, 2 ** 32, GREATEST):
                self.check_refused(4, add(key, weight))
                self.check_refused(4, stream_row([key, weight]))
        self.check_refused(2 ** 32 - 1, add(7, TOP_WEIGHT))

    def test_the_rows_sum_is_refused_where_each_weight_alone_is_not(self):
        self.check_refused(4, stream_row([7, 3, 7, 1]))
        self.check_refused(4, stream_row([8, 1, 9, 1, 8, 1, 7, 1]))
        self.check_refused(200, stream_row([7, 1] * 200))
        self.check_refused(2 * TOP_WEIGHT, stream_row([7, TOP_WEIGHT] * 2))

    def test_when_there_is_no_room_a_weight_of_0_still_comes(self):
        self.check_taken(1, add(8, 0), [(7, 2 ** 63 - 1)])
        self.check_taken(1, stream_row([8, 0, 7, 0]), [(7, 2 ** 63 - 1)])
        self.check_taken(1, stream_row([]), [(7, 2 ** 63 - 1)])
        self.check_refused(1, add(7, 1))
        self.check_refused(1, stream_row([8, 0, 7, 1]))

    def test_it_is_all_that_counts_and_not_what_is_in_the_table(self):
        row = summary_bytes(1, 2 ** 63 - 4, 1, [(7, 5)])
        self.assertEqual(ask(unpack(row), add(7, 4), TOTAL), [[0], [-1], [0, 2 ** 63 - 4]])
        self.assertEqual(ask(unpack(row), add(7, 3), TOTAL), [[0], [0], [0, 2 ** 63 - 1]])


if __name__ == "__main__":
    unittest.main()
