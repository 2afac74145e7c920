"""The bytes of a summary: how it is told as them, and taken from them."""

from heavykeys.counters import Summary

# How many bytes stand ahead of the first key, and how many a key takes together with its count.
HEAD_WIDTH = 24
ENTRY_WIDTH = 16


def bytes_of(number, width):
    row = []
    for place in range(width):
        row.append(number % 256)
        number = number // 256
    return row


def number_of(row):
    number = 0
    for byte in reversed(row):
        number = number * 256 + byte
    return number


def pack(summary):
    row = bytes_of(summary.k, 4) + bytes_of(len(summary.table), 4)
    row.extend(bytes_of(summary.total, 8) + bytes_of(summary.error, 8))
    for key, count in summary.ordered():
        row.extend(bytes_of(key, 8) + bytes_of(count, 8))
    return row


def parse(row):
    # How many keys are told is not asked here: the row's own length bounds the loop, whatever it tells.
    summary = Summary(number_of(row[0:4]))
    summary.total = number_of(row[8:16])
    summary.error = number_of(row[16:24])
    for place in range(HEAD_WIDTH, len(row), ENTRY_WIDTH):
        key = number_of(row[place:place + 8])
        summary.table[key] = number_of(row[place + 8:place + 16])
    return summary


def unpack(row):
    # A wrong length or number of keys, a key told twice and a wrong order show when the summary is told again.
    summary = parse(row)
    if summary.is_within_limits() and summary.is_proper() and pack(summary) == row:
        return summary
    return None
