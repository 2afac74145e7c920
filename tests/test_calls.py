"""The form of what is told and answered, what there is with no summary, and init, add, bounds and what is kept."""

import unittest

from heavykeys.summary import answers
from tests.helper import (
    COUNT, ERROR, GREATEST, PACK, TOTAL, add, ask, bounds, entry, heavy, init, merge, state, stream_row, summary_bytes,
    unpack,
)

# The bytes of the summary of one counter in which key 7 has come with 5.
ROW = [1, 0, 0, 0, 1, 0, 0, 0, 5, *[0] * 15, 7, *[0] * 7, 5, *[0] * 7]
# All twelve calls, with refusals of each sort.
TWELVE = [
    3, 11, 40, *ROW, 2, 8, 3, 3, 4, 5, 7, 6, 7, 0, 7, 1, 8, 1, 2, 8, 0, 1, 8, 1, 0, 10, 9, 40, *ROW, 10,
    12, 4, 8, 1, 9, 2, 12, 1, 5, 9, 0, 11, 0, 1, 0, 1, 2,
]


class Form(unittest.TestCase):
    def test_each_call_tells_how_many_numbers_then_these(self):
        self.assertEqual(answers([1, 2]), [1, 0])
        self.assertEqual(answers([1, 2, 2, 7, 5]), [1, 0, 1, 0])
        self.assertEqual(answers([1, 2, 3]), [1, 0, 2, 0, 0])
        self.assertEqual(answers([1, 2, 4]), [1, 0, 2, 0, 0])
        self.assertEqual(answers([1, 2, 5, 7]), [1, 0, 4, 0, 0, 0, 0])
        self.assertEqual(answers([1, 2, 6]), [1, 0, 2, 0, 0])
        self.assertEqual(answers([1, 2, 2, 7, 5, 7, 0]), [1, 0, 1, 0, 3, 0, 7, 5])
        self.assertEqual(answers([1, 2, 2, 7, 5, 8, 1, 2]), [1, 0, 1, 0, 3, 0, 1, 7])
        self.assertEqual(answers([1, 2, 8, 1, 2]), [1, 0, 2, 0, 0])
        self.assertEqual(answers([1, 1, 9, 40, *ROW]), [1, 0, 1, 0])
        self.assertEqual(answers([1, 2, 10]), [1, 0, 26, 0, 24, 2, *[0] * 23])
        self.assertEqual(answers([11, 40, *ROW]), [1, 0])
        self.assertEqual(answers([11, 40, *ROW, 10]), [1, 0, 42, 0, 40, *ROW])
        self.assertEqual(answers([1, 2, 12, 4, 7, 5, 8, 3]), [1, 0, 1, 0])

    def test_an_empty_row_has_its_count_before_it_too(self):
        self.assertEqual(answers([1, 2, 12, 0, 3]), [1, 0, 1, 0, 2, 0, 0])
        self.assertEqual(answers([1, 2, 9, 0, 3]), [1, 0, 1, -1, 2, 0, 0])
        self.assertEqual(answers([11, 0, 3]), [1, -1, 1, -9])

    def test_rows_of_400_numbers(self):
        self.assertEqual(answers([1, 2, 12, 400, *[7, 1] * 200, 3]), [1, 0, 1, 0, 2, 0, 200])
        self.assertEqual(answers([1, 2, 9, 400, *[3] * 400, 3]), [1, 0, 1, -1, 2, 0, 0])
        self.assertEqual(answers([11, 400, *[3] * 400, 1, 2, 3]), [1, -1, 1, 0, 2, 0, 0])

    def test_all_twelve_in_one_list(self):
        both = [1, 0, 0, 0, 1, 0, 0, 0, 13, *[0] * 7, 3, *[0] * 7, 7, *[0] * 7, 7, *[0] * 7]
        one = [1, 0, 0, 0, 1, 0, 0, 0, 8, *[0] * 7, 3, *[0] * 7, 7, *[0] * 7, 2, *[0] * 7]
        self.assertEqual(answers(TWELVE), [
            1, -9, 1, 0, 1, 0, 2, 0, 8, 2, 0, 3, 4, 0, 1, 2, 5, 2, 0, 1, 3, 0, 7, 2, 1, -2, 3, 0, 1, 7, 1, -3, 1, -1,
            42, 0, 40, *one, 1, 0, 42, 0, 40, *both, 1, 0, 1, -1, 1, -1, 1, -1, 1, -1, 1, 0,
        ])

    def test_the_first_six_in_one_list(self):
        calls = [1, 1, 2, 7, 5, 2, 8, 3, 3, 4, 5, 7, 5, 8, 6]
        self.assertEqual(
            answers(calls),
            [1, 0, 1, 0, 1, 0, 2, 0, 8, 2, 0, 3, 4, 0, 1, 2, 5, 4, 0, 0, 0, 3, 2, 0, 1],
        )

    def test_a_refusal_is_its_number_alone(self):
        self.assertEqual(answers([1, 0]), [1, -1])
        self.assertEqual(answers([3]), [1, -9])
        self.assertEqual(answers([1, 1, 2, 7, 2 ** 32, 3]), [1, 0, 1, -1, 2, 0, 0])
        self.assertEqual(answers([1, 1, 7, 0]), [1, 0, 1, -2])
        self.assertEqual(answers([1, 1, 8, 1, 0]), [1, 0, 1, -1])
        self.assertEqual(answers([1, 1, 2, 7, 5, 2, 8, 3, 8, 0, 1]), [1, 0, 1, 0, 1, 0, 1, -3])

    def test_answers_are_a_list_of_ints_and_no_bools(self):
        for calls in ([1, 1, 2, 7, 5, 5, 7, 5, 8, 3, 4, 6, 1, 0], TWELVE):
            told = answers(calls)
            self.assertIs(type(told), list)
            self.assertEqual({type(number) for number in told}, {int})

    def test_the_list_handed_in_stays_the_same(self):
        for calls in ([1, 1, 2, 7, 5, 2, 8, 3, 3, 4, 5, 7, 6, 1, 0], list(TWELVE)):
            before = list(calls)
            answers(calls)
            self.assertEqual(calls, before)

    def test_the_list_handed_in_is_not_changed_for_a_while_either(self):
        class Fixed(list):
            def refuse(self, *args, **kwargs):
                raise AssertionError("the list handed in was changed")

            append = extend = insert = pop = remove = clear = sort = reverse = refuse
            __setitem__ = __delitem__ = __iadd__ = __imul__ = refuse

        self.assertEqual(answers(Fixed(TWELVE)), answers(TWELVE))

    def test_nothing_is_kept_from_one_time_to_the_next(self):
        calls = [1, 2, 2, 7, 5, 2, 8, 3, 2, 9, 1, 3, 4, 5, 7, 6]
        for again in (calls, TWELVE):
            first = answers(again)
            self.assertEqual(answers(again), first)
        self.assertEqual(answers([3]), [1, -9])
        self.assertEqual(answers([1, 2, 3, 4, 6]), [1, 0, 2, 0, 0, 2, 0, 0, 2, 0, 0])

    def test_an_answer_can_be_changed_without_harm(self):
        told = answers([1, 1, 3])
        told.append(99)
        self.assertEqual(answers([1, 1, 3]), [1, 0, 2, 0, 0])

    def test_twenty_calls(self):
        parts = ask(init(3), *[add(5, 2)] * 18, TOTAL)
        self.assertEqual(parts, [[0]] * 19 + [[0, 36]])


class NoSummary(unittest.TestCase):
    def test_each_call_but_init_and_unpack_is_refused(self):
        calls = (add(7, 5), TOTAL, ERROR, bounds(7), COUNT, entry(0), heavy(1, 2), merge(ROW), PACK, stream_row([7, 5]))
        for call in calls:
            self.assertEqual(ask(call), [[-9]], call)
            self.assertEqual(ask(call, init(0), call, unpack([]), call), [[-9], [-1], [-9], [-1], [-9]], call)

    def test_whatever_the_numbers_are(self):
        calls = [add(7, 2 ** 32), entry(GREATEST), heavy(0, 0), heavy(2, 1), heavy(0, 1), merge([]), merge([0] * 400)]
        calls += [merge(summary_bytes(2, 5, 0, [(7, 5)])), stream_row([]), stream_row([7]), stream_row([7, 2 ** 32])]
        self.assertEqual(ask(*calls), [[-9]] * len(calls))

    def test_after_an_unpack_there_is_one(self):
        told = ask(TOTAL, unpack(ROW), TOTAL, unpack([]), TOTAL)
        self.assertEqual(told, [[-9], [0], [0, 5], [-1], [0, 5]])

    def test_after_a_refused_init_there_is_still_none(self):
        self.assertEqual(ask(init(0), TOTAL, init(1025), COUNT), [[-1], [-9], [-1], [-9]])

    def test_the_numbers_of_a_refused_call_are_not_taken_for_calls(self):
        self.assertEqual(ask(add(3, 3), bounds(1), init(1), TOTAL), [[-9], [-9], [0], [0, 0]])

    def test_what_was_refused_does_not_come_later(self):
        self.assertEqual(ask(add(7, 5), init(1), TOTAL, bounds(7)), [[-9], [0], [0, 0], [0, 0, 0, 0]])


class Init(unittest.TestCase):
    def test_the_empty_summary(self):
        self.assertEqual(state(4, [], [0, 7]), [[0], [0], [0], [0, 0, 0], [0, 0, 0]])

    def test_k_from_1_to_1024(self):
        for k in (1, 2, 1023, 1024):
            self.assertEqual(ask(init(k), COUNT), [[0], [0, 0]], k)

    def test_other_k_is_refused(self):
        for k in (0, 1025, 1026, 2 ** 32 + 1, 2 ** 63, GREATEST):
            self.assertEqual(ask(init(k)), [[-1]], k)

    def test_refused_leaves_the_summary(self):
        for k in (0, 1025, GREATEST):
            parts = ask(init(1), add(7, 5), add(8, 3), init(k), TOTAL, ERROR, bounds(7), COUNT, add(9, 1), ERROR, COUNT)
            self.assertEqual(
                parts[3:], [[-1], [0, 8], [0, 3], [0, 1, 2, 5], [0, 1], [0], [0, 4], [0, 1]], k
            )

    def test_a_second_time_empties_it(self):
        parts = ask(init(1), add(7, 5), add(8, 3), init(2), TOTAL, ERROR, COUNT, bounds(7), bounds(8))
        self.assertEqual(parts[3:], [[0], [0, 0], [0, 0], [0, 0], [0, 0, 0, 0], [0, 0, 0, 0]])

    def test_a_second_time_takes_the_new_k(self):
        parts = ask(init(1), init(2), add(7, 5), add(8, 3), COUNT, ERROR, init(1), add(7, 5), add(8, 3), COUNT, ERROR)
        self.assertEqual(parts[4:6], [[0, 2], [0, 0]])
        self.assertEqual(parts[9:], [[0, 1], [0, 3]])


class Add(unittest.TestCase):
    def test_a_key_that_comes_again(self):
        self.assertEqual(state(2, [(7, 5), (8, 1), (7, 4)], [7, 8]), [[10], [0], [2], [1, 9, 9], [1, 1, 1]])

    def test_weight_0_does_not_bring_a_key_in(self):
        self.assertEqual(state(2, [(7, 0)], [7]), [[0], [0], [0], [0, 0, 0]])

    def test_weight_0_of_a_key_in_the_table(self):
        self.assertEqual(state(2, [(7, 5), (7, 0)], [7]), [[5], [0], [1], [1, 5, 5]])

    def test_weight_0_when_the_table_is_full(self):
        self.assertEqual(state(1, [(7, 5), (8, 0)], [7, 8]), [[5], [0], [1], [1, 5, 5], [0, 0, 0]])
        self.assertEqual(state(1, [(7, 5), (7, 0)], [7, 8]), [[5], [0], [1], [1, 5, 5], [0, 0, 0]])

    def test_weight_0_of_a_key_that_went(self):
        self.assertEqual(state(1, [(7, 5), (8, 3), (8, 0)], [7, 8]), [[8], [3], [1], [1, 2, 5], [0, 0, 3]])

    def test_the_greatest_weight(self):
        top = 2 ** 32 - 1
        self.assertEqual(state(1, [(7, top)], [7]), [[top], [0], [1], [1, top, top]])
        self.assertEqual(state(1, [(7, top)] * 3, [7]), [[3 * top], [0], [1], [1, 3 * top, 3 * top]])
        told = state(1, [(7, top), (8, top - 1)], [7, 8])
        self.assertEqual(told, [[2 * top - 1], [top - 1], [1], [1, 1, top], [0, 0, top - 1]])

    def test_greater_weights_are_refused(self):
        for weight in (2 ** 32, 2 ** 32 + 1, 2 ** 63, GREATEST):
            self.assertEqual(ask(init(1), add(7, weight)), [[0], [-1]], weight)

    def test_refused_leaves_the_summary(self):
        for key in (7, 8, 9):
            parts = ask(
                init(1), add(7, 5), add(8, 3), add(key, 2 ** 32), TOTAL, ERROR, COUNT, bounds(7), bounds(8), bounds(9)
            )
            self.assertEqual(parts[3:], [[-1], [0, 8], [0, 3], [0, 1], [0, 1, 2, 5], [0, 0, 0, 3], [0, 0, 0, 3]], key)

    def test_goes_on_after_a_refusal(self):
        parts = ask(init(1), add(7, 2 ** 32), add(7, 2), TOTAL, bounds(7))
        self.assertEqual(parts, [[0], [-1], [0], [0, 2], [0, 1, 2, 2]])

    def test_the_least_and_the_greatest_key(self):
        told = state(2, [(0, 3), (GREATEST, 4), (0, 1)], [0, GREATEST, 1])
        self.assertEqual(told, [[8], [0], [2], [1, 4, 4], [1, 4, 4], [0, 0, 0]])
        self.assertEqual(state(1, [(0, 3), (GREATEST, 5)], [0, GREATEST]), [[8], [3], [1], [0, 0, 3], [1, 2, 5]])

    def test_keys_that_differ_in_one_bit_are_apart(self):
        keys = [2 ** 63, 2 ** 63 + 1, 2 ** 32, 1]
        stream = [(key, 10 + place) for place, key in enumerate(keys)]
        self.assertEqual(state(4, stream, keys)[3:], [[1, 10, 10], [1, 11, 11], [1, 12, 12], [1, 13, 13]])


class Asking(unittest.TestCase):
    def test_changes_nothing(self):
        once = [TOTAL, ERROR, COUNT, bounds(7), bounds(8)]
        parts = ask(init(1), add(7, 5), add(8, 3), *once, *once)
        self.assertEqual(parts[3:8], parts[8:])

    def test_bounds_of_a_missing_key_brings_none_in(self):
        self.assertEqual(ask(init(3), bounds(7), COUNT), [[0], [0, 0, 0, 0], [0, 0]])

    def test_bounds_of_a_missing_key_are_0_and_the_error(self):
        parts = ask(init(1), add(7, 5), add(8, 3), bounds(8), bounds(0), bounds(GREATEST))
        self.assertEqual(parts[3:], [[0, 0, 0, 3]] * 3)


class Kept(unittest.TestCase):
    def test_k_1_after_each_add(self):
        stream = [(7, 5), (8, 3), (9, 2), (9, 4), (7, 4), (7, 1)]
        expected = [
            [[5], [0], [1], [1, 5, 5], [0, 0, 0], [0, 0, 0]],
            [[8], [3], [1], [1, 2, 5], [0, 0, 3], [0, 0, 3]],
            [[10], [5], [0], [0, 0, 5], [0, 0, 5], [0, 0, 5]],
            [[14], [5], [1], [0, 0, 5], [0, 0, 5], [1, 4, 9]],
            [[18], [9], [0], [0, 0, 9], [0, 0, 9], [0, 0, 9]],
            [[19], [9], [1], [1, 1, 10], [0, 0, 9], [0, 0, 9]],
        ]
        for length, row in enumerate(expected, start=1):
            self.assertEqual(state(1, stream[:length], [7, 8, 9]), row, length)

    def test_k_2_after_each_add(self):
        stream = [(1, 4), (2, 6), (3, 5), (3, 3), (4, 1), (1, 9)]
        expected = [
            [[4], [0], [1], [1, 4, 4], [0, 0, 0], [0, 0, 0], [0, 0, 0]],
            [[10], [0], [2], [1, 4, 4], [1, 6, 6], [0, 0, 0], [0, 0, 0]],
            [[15], [4], [2], [0, 0, 4], [1, 2, 6], [1, 1, 5], [0, 0, 4]],
            [[18], [4], [2], [0, 0, 4], [1, 2, 6], [1, 4, 8], [0, 0, 4]],
            [[19], [5], [2], [0, 0, 5], [1, 1, 6], [1, 3, 8], [0, 0, 5]],
            [[28], [6], [2], [1, 8, 14], [0, 0, 6], [1, 2, 8], [0, 0, 6]],
        ]
        for length, row in enumerate(expected, start=1):
            self.assertEqual(state(2, stream[:length], [1, 2, 3, 4]), row, length)

    def test_exactly_k_keys_are_left_alone(self):
        self.assertEqual(state(3, [(1, 1), (2, 1), (3, 1)], [1, 2, 3]), [[3], [0], [3]] + [[1, 1, 1]] * 3)

    def test_all_equal_counts_go_at_once(self):
        self.assertEqual(state(3, [(1, 2), (2, 2), (3, 2), (4, 2)], [1, 2, 3, 4]), [[8], [2], [0]] + [[0, 0, 2]] * 4)

    def test_equal_least_counts_go_together(self):
        stream = [(1, 2), (2, 7), (3, 2), (4, 2)]
        self.assertEqual(state(3, stream, [1, 2, 3, 4]), [[13], [2], [1], [0, 0, 2], [1, 5, 7], [0, 0, 2], [0, 0, 2]])

    def test_the_key_that_comes_may_be_the_one_that_goes(self):
        told = state(2, [(1, 5), (2, 6), (3, 2)], [1, 2, 3])
        self.assertEqual(told, [[13], [2], [2], [1, 3, 5], [1, 4, 6], [0, 0, 2]])

    def test_equal_greatest_counts_stay_together(self):
        told = state(2, [(1, 5), (2, 1), (3, 5)], [1, 2, 3])
        self.assertEqual(told, [[11], [1], [2], [1, 4, 5], [0, 0, 1], [1, 4, 5]])

    def test_there_is_room_again_after_several_went(self):
        stream = [(1, 1), (2, 1), (3, 1), (4, 9), (5, 9)]
        self.assertEqual(state(2, stream, [1, 4, 5]), [[21], [1], [2], [0, 0, 1], [1, 9, 10], [1, 9, 10]])


if __name__ == "__main__":
    unittest.main()
