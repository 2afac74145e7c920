"""The calls on one summary, told and answered as lists of whole numbers."""

from heavykeys.counters import Summary, is_k
from heavykeys.packed import pack, unpack

INIT = 1
ADD = 2
TOTAL = 3
ERROR = 4
BOUNDS = 5
COUNT = 6
ENTRY = 7
HEAVY = 8
MERGE = 9
UNPACK = 11
STREAM = 12
# For each call without a row, how many whole numbers stand behind its own.
NUMBERS_BEHIND = {1: 1, 2: 2, 3: 0, 4: 0, 5: 1, 6: 0, 7: 1, 8: 2, 10: 0}
# The calls with a row, which has its length before it, and nothing else.
WITH_ROW = (9, 11, 12)

DONE = 0
REFUSED = -1
NO_ENTRY = -2
ERROR_ABOVE = -3
NO_SUMMARY = -9


class Line:
    def __init__(self):
        self.summary = None


def split_calls(calls):
    # A row's length is left out: once the calls are apart, the row tells it itself.
    parts = []
    place = 0
    while place < len(calls):
        number = calls[place]
        place += 1
        if number in WITH_ROW:
            length = calls[place]
            place += 1
        else:
            length = NUMBERS_BEHIND[number]
        parts.append([number] + calls[place:place + length])
        place += length
    return parts


def with_length(row):
    return [len(row)] + row


def answer_init(line, k):
    if not is_k(k):
        return [REFUSED]
    line.summary = Summary(k)
    return [DONE]


def answer_unpack(line, row):
    summary = unpack(row)
    if summary is None:
        return [REFUSED]
    line.summary = summary
    return [DONE]


def answer_stream(summary, row):
    keys = row[0::2]
    weights = row[1::2]
    if len(keys) != len(weights) or not summary.can_take(weights):
        return [REFUSED]
    for key, weight in zip(keys, weights):
        summary.add(key, weight)
    return [DONE]


def answer_bounds(summary, key):
    there = 1 if key in summary.table else 0
    return [DONE, there, summary.low(key), summary.high(key)]


def answer_entry(summary, i):
    entries = summary.ordered()
    if i >= len(entries):
        return [NO_ENTRY]
    return [DONE] + list(entries[i])


def answer_heavy(summary, a, b):
    if b == 0 or a > b:
        return [REFUSED]
    if summary.is_above(summary.error, a, b):
        return [ERROR_ABOVE]
    keys = [key for key, count in summary.ordered() if summary.is_above(count + summary.error, a, b)]
    return [DONE] + with_length(keys)


def answer_merge(summary, row):
    other = unpack(row)
    if other is None or not summary.can_merge(other):
        return [REFUSED]
    summary.merge(other)
    return [DONE]


def answer_of_summary(summary, call):
    number = call[0]
    # To add is to let a stream of one key come.
    if number == ADD or number == STREAM:
        return answer_stream(summary, call[1:])
    if number == TOTAL:
        return [DONE, summary.total]
    if number == ERROR:
        return [DONE, summary.error]
    if number == BOUNDS:
        return answer_bounds(summary, call[1])
    if number == COUNT:
        return [DONE, len(summary.table)]
    if number == ENTRY:
        return answer_entry(summary, call[1])
    if number == HEAVY:
        return answer_heavy(summary, call[1], call[2])
    if number == MERGE:
        return answer_merge(summary, call[1:])
    # split_calls lets no other call through: what is left is pack.
    return [DONE] + with_length(pack(summary))


def answer_call(line, call):
    if call[0] == INIT:
        return answer_init(line, call[1])
    if call[0] == UNPACK:
        return answer_unpack(line, call[1:])
    if line.summary is None:
        return [NO_SUMMARY]
    return answer_of_summary(line.summary, call)


def answers(calls):
    line = Line()
    told = []
    for call in split_calls(calls):
        answer = answer_call(line, call)
        told.append(len(answer))
        told.extend(answer)
    return told
