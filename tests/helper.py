"""What the tests share: the calls by name, answers taken apart, and a summary written straight from the words."""

from heavykeys.summary import answers

TOTAL = [3]
ERROR = [4]
COUNT = [6]
GREATEST = 18446744073709551615


def init(k):
    return [1, k]


def add(key, weight):
    return [2, key, weight]


def bounds(key):
    return [5, key]


def ask(*calls):
    """The answer of each call, as a list of lists."""
    assert 1 <= len(calls) <= 20, "the interface takes from 1 to 20 calls"
    told = answers([number for call in calls for number in call])
    parts = []
    place = 0
    while place < len(told):
        end = place + 1 + told[place]
        parts.append(told[place + 1:end])
        place = end
    assert place == len(told), told
    assert len(parts) == len(calls), told
    return parts


def state(k, stream, keys):
    """Total, error, count and each key's bounds once the stream has come, without the leading 0."""
    adds = [add(key, weight) for key, weight in stream]
    parts = ask(init(k), *adds, TOTAL, ERROR, COUNT, *[bounds(key) for key in keys])
    assert parts[:1 + len(adds)] == [[0]] * (1 + len(adds)), parts
    asked = parts[1 + len(adds):]
    assert all(part[0] == 0 for part in asked), asked
    return [part[1:] for part in asked]


def model(k, stream):
    """All, the error and the table in its order, each step as the words have it."""
    total, error, table = 0, 0, []
    for key, weight in stream:
        count = sum(c for other, c in table if other == key) + weight
        table = [(other, c) for other, c in table if other != key]
        if count:
            table.append((key, count))
        total += weight
        table.sort(key=lambda pair: (-pair[1], pair[0]))
        if len(table) > k:
            cut = table[k][1]
            table = [(other, c - cut) for other, c in table if c - cut > 0]
            error += cut
    return total, error, table


def model_state(k, stream, keys):
    """What state() should give, by the model."""
    total, error, table = model(k, stream)
    counts = dict(table)
    rows = [[int(key in counts), counts.get(key, 0), counts.get(key, 0) + error] for key in keys]
    return [[total], [error], [len(table)]] + rows


def true_weights(stream):
    weights = {}
    for key, weight in stream:
        weights[key] = weights.get(key, 0) + weight
    return weights


def made_stream(seed, length, keys, weights):
    """A stream that looks shuffled and is the same each time."""
    stream = []
    for step in range(length):
        seed = (seed * 6364136223846793005 + 1442695040888963407) % 2 ** 64
        stream.append(((seed >> 33) % keys, (seed >> 45) % weights))
    return stream
