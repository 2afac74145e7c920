"""A summary of a stream: at most k keys with their counts, and one error for all keys."""

GREATEST_K = 1024
# 2^32 and 2^63: the first weight, and the first sum of all weights, that are too great.
WEIGHT_END = 4294967296
TOTAL_END = 9223372036854775808


def is_k(number):
    return number >= 1 and number <= GREATEST_K


class Summary:
    def __init__(self, k):
        self.k = k
        self.total = 0
        self.error = 0
        self.table = {}

    def low(self, key):
        return self.table.get(key, 0)

    def high(self, key):
        return self.low(key) + self.error

    def can_take(self, weight):
        return weight < WEIGHT_END and self.total + weight < TOTAL_END

    def add(self, key, weight):
        # Every count in the table is 1 or more, so a weight of 0 must not bring a key in.
        if weight > 0:
            self.table[key] = self.low(key) + weight
        self.total += weight
        self.keep()

    def keep(self):
        if len(self.table) <= self.k:
            return
        # Which of several equal counts stands at this place makes no difference to the count itself.
        cut = sorted(self.table.values(), reverse=True)[self.k]
        kept = {}
        for key, count in self.table.items():
            if count > cut:
                kept[key] = count - cut
        self.table = kept
        self.error += cut
