"""The whole program once more, slowly: by turning one by one and looking at all pairs, on small widths."""

from support import (
    differences, least_gap, met, stepped_landing, trimmed, turned_loop, turned_once, with_count, words_by_turning,
)

# A product of two chains of 8 words has 15 words at most; more are looked at, so that none is missed.
WORDS_LOOKED_AT = 24


class Model:
    def __init__(self):
        self.begin(8)

    def begin(self, bits):
        self.size = 2 ** bits
        self.held = [[0] for x in range(8)]

    def until_it_comes_again(self, x):
        """The words of x, one for each turn, until all its words are what they were at first."""
        row = [self.held[x][0]]
        now = turned_once(self.held[x], self.size)
        while now != self.held[x]:
            row.append(now[0])
            now = turned_once(now, self.size)
        return row

    def word(self, x, k):
        row = self.until_it_comes_again(x)
        return row[k % len(row)]

    def total(self, x, k):
        row = self.until_it_comes_again(x)
        return (k // len(row) * sum(row) + sum(row[:k % len(row)])) % self.size

    def put(self, z, word_of):
        words = trimmed(differences([word_of(k) % self.size for k in range(WORDS_LOOKED_AT)], self.size))
        if len(words) > 8:
            return [-5]
        self.held[z] = words
        return with_count(words)

    def no_words(self, numbers):
        return max(numbers) >= self.size

    def answer(self, call):
        return getattr(self, "call_" + str(call[0]))(*call[1:])

    def call_0(self, n):
        if n not in range(1, 33):
            return [-1]
        self.begin(n)
        return [n]

    def call_1(self, r, a, s, b):
        if r > 8:
            return [-4]
        return [-1] if self.no_words((a, s, b)) else turned_loop(r, a, s, b, self.size)

    def call_2(self, a, s, lo, hi):
        return [-1] if self.no_words((a, s, lo, hi)) or hi < lo else stepped_landing(a, s, lo, hi, self.size)

    def call_3(self, x, count, *words):
        if x > 7:
            return [-2]
        if count not in range(1, 9) or self.no_words(words):
            return [-1]
        self.held[x] = trimmed(words)
        return with_count(words)

    def call_4(self, x):
        return [-2] if x > 7 else with_count(self.held[x])

    def call_5(self, x, k):
        return [-2] if x > 7 else [self.word(x, k)]

    def call_6(self, x, k):
        return [-2] if x > 7 else [self.total(x, k)]

    def of_two(self, z, x, y, joined):
        if max(z, x, y) > 7:
            return [-2]
        first = words_by_turning(self.held[x], WORDS_LOOKED_AT, self.size)
        second = words_by_turning(self.held[y], WORDS_LOOKED_AT, self.size)
        return self.put(z, lambda k: joined(first[k], second[k]))

    def call_7(self, z, x, y):
        return self.of_two(z, x, y, lambda one, other: one + other)

    def call_8(self, z, x, y):
        return self.of_two(z, x, y, lambda one, other: one - other)

    def call_9(self, z, x, y):
        return self.of_two(z, x, y, lambda one, other: one * other)

    def call_10(self, z, x, d):
        return [-2] if max(z, x) > 7 else self.put(z, lambda k: self.word(x, k + d))

    def call_11(self, z, x, d):
        return [-2] if max(z, x) > 7 else self.put(z, lambda k: self.word(x, k * d))

    def call_12(self, z, x):
        return [-2] if max(z, x) > 7 else self.put(z, lambda k: self.total(x, k))

    def call_13(self, x):
        return [-2] if x > 7 else [len(self.until_it_comes_again(x))]

    def call_14(self, x, y):
        if max(x, y) > 7:
            return [-2]
        first = words_by_turning(self.held[x], WORDS_LOOKED_AT, self.size)
        return [1 if first == words_by_turning(self.held[y], WORDS_LOOKED_AT, self.size) else 0]

    def call_15(self, x, r, a, s, b):
        if r > 8:
            return [-4]
        if x > 7:
            return [-2]
        if self.no_words((a, s, b)):
            return [-1]
        loop = turned_loop(r, a, s, b, self.size)
        return loop if loop == [0] else [1, self.word(x, loop[1])]

    def call_16(self, a, s, b, t, n):
        return [-1] if min(s, t, n) < 1 or max(s, t, n) > 1000000 else met(a, s, b, t, n)

    def call_17(self, a, s, b, t, n):
        return [-1] if min(s, t, n) < 1 or max(s, t, n) > 1000000 else least_gap(a, s, b, t, n)
