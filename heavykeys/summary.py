"""The calls on one summary, told and answered as lists of whole numbers."""

from heavykeys.counters import Summary, is_k

INIT = 1
ADD = 2
TOTAL = 3
ERROR = 4
BOUNDS = 5
# For each call, how many whole numbers stand behind its own.
NUMBERS_BEHIND = {1: 1, 2: 2, 3: 0, 4: 0, 5: 1, 6: 0}

DONE = 0
REFUSED = -1
NO_SUMMARY = -9


class Line:
    def __init__(self):
        self.summary = None


def split_calls(calls):
    parts = []
    place = 0
    while place < len(calls):
        end = place + 1 + NUMBERS_BEHIND[calls[place]]
        parts.append(calls[place:end])
        place = end
    return parts


def answer_init(line, k):
    if not is_k(k):
        return [REFUSED]
    line.summary = Summary(k)
    return [DONE]


def answer_add(summary, key, weight):
    if not summary.can_take(weight):
        return [REFUSED]
    summary.add(key, weight)
    return [DONE]


def answer_bounds(summary, key):
    there = 1 if key in summary.table else 0
    return [DONE, there, summary.low(key), summary.high(key)]


def answer_of_summary(summary, call):
    number = call[0]
    if number == ADD:
        return answer_add(summary, call[1], call[2])
    if number == TOTAL:
        return [DONE, summary.total]
    if number == ERROR:
        return [DONE, summary.error]
    if number == BOUNDS:
        return answer_bounds(summary, call[1])
    # split_calls lets no other call through: what is left is count.
    return [DONE, len(summary.table)]


def answer_call(line, call):
    if call[0] == INIT:
        return answer_init(line, call[1])
    if line.summary is None:
        return [NO_SUMMARY]
    return answer_of_summary(line.summary, call)


def answers(calls):
    line = Line()
    told = []
    for call in split_calls(calls):
        answer = answer_call(line, call)
        told.append(len(answer))
        told.extend(answer)
    return told
