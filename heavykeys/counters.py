"""A summary of a stream: at most k keys with their counts, and one error for all keys."""

GREATEST_K = 1024
# 2^32 and 2^63: the first weight, and the first sum of all weights, that are too great.
WEIGHT_END = 4294967296
TOTAL_END = 9223372036854775808


def is_k(number):
    return number >= 1 and number <= GREATEST_K


def rank(entry):
    # The greatest count comes first, of equal counts the least key.
    return (-entry[1], entry[0])


class Summary:
    def __init__(self, k):
        self.k = k
        self.total = 0
        self.error = 0
        self.table = {}

    def ordered(self):
        return sorted(self.table.items(), key=rank)

    def low(self, key):
        return self.table.get(key, 0)

    def high(self, key):
        return self.low(key) + self.error

    def is_above(self, weight, a, b):
        return weight * b > self.total * a

    def can_take(self, weights):
        return max(weights, default=0) < WEIGHT_END and self.total + sum(weights) < TOTAL_END

    def add(self, key, weight):
        # Every count in the table is 1 or more, so a weight of 0 must not bring a key in.
        if weight > 0:
            self.table[key] = self.low(key) + weight
        self.total += weight
        self.keep()

    def can_merge(self, other):
        return self.k == other.k and self.total + other.total < TOTAL_END

    def merge(self, other):
        together = dict(self.table)
        for key, count in other.table.items():
            together[key] = self.low(key) + count
        self.table = together
        self.total += other.total
        self.error += other.error
        self.keep()

    def keep(self):
        if len(self.table) <= self.k:
            return
        # Which of several equal counts stands at this place makes no difference to the count itself.
        cut = sorted(self.table.values(), reverse=True)[self.k]
        kept = {}
        for key, count in self.table.items():
            if count > cut:
                kept[key] = count - cut
        self.table = kept
        self.error += cut

    def is_within_limits(self):
        counts = list(self.table.values())
        return is_k(self.k) and self.total < TOTAL_END and len(counts) <= self.k and 0 not in counts

    def is_proper(self):
        counted = sum(self.table.values())
        # Without an error nothing was ever taken off, so nothing may be missing.
        if self.error == 0:
            return counted == self.total
        return (self.k + 1) * self.error + counted <= self.total
