"""What the tests share: the calls by name, answers taken apart, and a summary written straight from the words."""

import struct

from heavykeys.summary import answers

TOTAL = [3]
ERROR = [4]
COUNT = [6]
PACK = [10]
GREATEST = 18446744073709551615


def init(k):
    return [1, k]


def add(key, weight):
    return [2, key, weight]


def bounds(key):
    return [5, key]


def entry(i):
    return [7, i]


def heavy(a, b):
    return [8, a, b]


def merge(row):
    return [9, len(row), *row]


def unpack(row):
    return [11, len(row), *row]


def stream_row(row):
    return [12, len(row), *row]


def stream_call(pairs):
    return stream_row([number for pair in pairs for number in pair])


def ask(*calls):
    """The answer of each call, as a list of lists."""
    assert 1 <= len(calls) <= 20, "the interface takes from 1 to 20 calls"
    told = answers([number for call in calls for number in call])
    parts = []
    place = 0
    while place < len(told):
        end = place + 1 + told[place]
        parts.append(told[place + 1:end])
        place = end
    assert place == len(told), told
    assert len(parts) == len(calls), told
    return parts


def packed(*calls):
    """The bytes of the summary that is there after the calls."""
    told = ask(*calls, PACK)[-1]
    assert told[0] == 0 and told[1] == len(told) - 2, told
    return told[2:]


def summary_bytes(k, total, error, table, number=None):
    """The bytes of these, whether they are a summary's or not; number is how many keys are told."""
    row = struct.pack("<IIQQ", k, len(table) if number is None else number, total, error)
    for key, count in table:
        row += struct.pack("<QQ", key, count)
    return list(row)


def state(k, stream, keys):
    """Total, error, count and each key's bounds once the stream has come, without the leading 0."""
    adds = [add(key, weight) for key, weight in stream]
    parts = ask(init(k), *adds, TOTAL, ERROR, COUNT, *[bounds(key) for key in keys])
    assert parts[:1 + len(adds)] == [[0]] * (1 + len(adds)), parts
    asked = parts[1 + len(adds):]
    assert all(part[0] == 0 for part in asked), asked
    return [part[1:] for part in asked]


def model_kept(k, error, counts):
    """The error and the table in its order, once these counts are kept."""
    table = sorted(counts, key=lambda pair: (-pair[1], pair[0]))
    if len(table) > k:
        cut = table[k][1]
        table = [(key, count - cut) for key, count in table if count - cut > 0]
        error += cut
    return error, table


def model(k, stream):
    """All, the error and the table in its order, each step as the words have it."""
    total, error, table = 0, 0, []
    for key, weight in stream:
        count = sum(c for other, c in table if other == key) + weight
        table = [(other, c) for other, c in table if other != key]
        if count:
            table.append((key, count))
        total += weight
        error, table = model_kept(k, error, table)
    return total, error, table


def model_merged(k, one, other):
    """Two of the model's summaries put together."""
    keys = sorted({key for key, count in one[2] + other[2]})
    counts = [(key, dict(one[2]).get(key, 0) + dict(other[2]).get(key, 0)) for key in keys]
    return (one[0] + other[0], *model_kept(k, one[1] + other[1], counts))


def model_taken(row):
    """k and the model's summary of these bytes, or None where they are no summary's."""
    if len(row) < 24 or (len(row) - 24) % 16:
        return None
    k, number, total, error = struct.unpack("<IIQQ", bytes(row[:24]))
    table = list(struct.iter_unpack("<QQ", bytes(row[24:])))
    if not 1 <= k <= 1024 or number != len(table) or number > k or total >= 2 ** 63:
        return None
    if table != sorted(table, key=lambda pair: (-pair[1], pair[0])) or len(dict(table)) < number:
        return None
    counted = sum(count for key, count in table)
    if any(count == 0 for key, count in table) or (k + 1) * error + counted > total:
        return None
    if error == 0 and counted < total:
        return None
    return k, (total, error, table)


def model_heavy(total, error, table, a, b):
    """What heavy should answer of the model's summary."""
    if b == 0 or a > b:
        return [-1]
    if error * b > total * a:
        return [-3]
    keys = [key for key, count in table if (count + error) * b > total * a]
    return [0, len(keys), *keys]


def model_state(k, stream, keys):
    """What state() should give, by the model."""
    total, error, table = model(k, stream)
    counts = dict(table)
    rows = [[int(key in counts), counts.get(key, 0), counts.get(key, 0) + error] for key in keys]
    return [[total], [error], [len(table)]] + rows


def true_weights(stream):
    weights = {}
    for key, weight in stream:
        weights[key] = weights.get(key, 0) + weight
    return weights


def made_numbers(seed, length):
    """Numbers below 2^31 that look shuffled and are the same each time."""
    numbers = []
    for step in range(length):
        seed = (seed * 6364136223846793005 + 1442695040888963407) % 2 ** 64
        numbers.append(seed >> 33)
    return numbers


def made_stream(seed, length, keys, weights):
    """A stream that looks shuffled and is the same each time."""
    numbers = made_numbers(seed, length)
    return [(number % keys, (number >> 12) % weights) for number in numbers]
