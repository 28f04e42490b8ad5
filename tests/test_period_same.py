import itertools
import random
import time
import unittest

from support import (
    GREATEST, ahead, ask, at, chain, every, less, period, plus, random_chain, same, shows, sums, times, trimmed,
    turned_far, turned_once, width, words_by_turning,
)

SIZE_32 = 2 ** 32


def turned_until_it_comes_again(words, size):
    """The least number of turns from 1 on after which the row of words goes on as from the beginning."""
    now = turned_once(words, size)
    count = 1
    while now != words:
        now = turned_once(now, size)
        count = count + 1
    return count


class PeriodTest(unittest.TestCase):
    def test_0_alone_and_1_word(self):
        for bits in (1, 8, 32):
            with self.subTest(bits=bits):
                found = ask(width(bits), period(0), chain(1, [1]), period(1), chain(1, [2 ** bits - 1]), period(1))
                self.assertEqual(found[1::2], [[1]] * 3)

    def test_2_words_with_odd_and_even_steps(self):
        for bits in (1, 8, 32):
            for noughts in range(bits):
                with self.subTest(bits=bits, noughts=noughts):
                    step = 2 ** noughts
                    found = ask(width(bits), chain(0, [0, step]), period(0), chain(1, [1, 2 ** bits - step]), period(1))
                    self.assertEqual([found[2], found[4]], [[2 ** (bits - noughts)]] * 2)

    def test_3_to_8_words_with_an_odd_last_one(self):
        # The choices of 2 and 3 out of the turns have one 2 less than the turns, those of 4 to 7 two.
        for bits in (1, 8, 32):
            for length in range(2, 9):
                with self.subTest(bits=bits, length=length):
                    factor = {2: 1, 3: 2, 4: 2}.get(length, 4)
                    found = ask(width(bits), chain(0, [0] * (length - 1) + [1]), period(0))
                    self.assertEqual(found[2], [factor * 2 ** bits])

    def test_a_period_above_the_greatest_number_that_is_handed_in(self):
        self.assertEqual(ask(width(32), chain(0, [1] * 8), period(0))[2], [17179869184])

    def test_even_words(self):
        # The word of the first after k turns is 1 + 2 k k.
        found = ask(chain(0, [1, 2, 4]), period(0), chain(0, [3, 0, 128]), period(0), chain(0, [3, 128, 0, 64]), period(0))
        self.assertEqual(found[1::2], [[64], [4], [8]])

    def test_words_ahead_of_the_last_may_need_more_turns_than_it(self):
        found = ask(chain(0, [0, 1, 128]), period(0), chain(0, [0, 128, 0, 0, 128]), period(0))
        self.assertEqual(found[1::2], [[256], [8]])

    def test_asking_changes_nothing(self):
        self.assertEqual(ask(chain(0, [1, 2]), period(0), shows(0))[2], [2, 1, 2])

    def test_all_chains_of_1_and_2_bits_against_turning_one_by_one(self):
        for bits, longest in ((1, 8), (2, 5)):
            size = 2 ** bits
            for length in range(1, longest + 1):
                for words in itertools.product(range(size), repeat=length):
                    kept = trimmed(words)
                    found = ask(width(bits), chain(0, words), period(0))
                    self.assertEqual(found[2], [turned_until_it_comes_again(kept, size)], (bits, words))

    def test_small_widths_against_turning_one_by_one(self):
        source = random.Random(51)
        for case in range(300):
            bits = source.choice((2, 3, 4, 5, 8))
            size = 2 ** bits
            words = random_chain(source, size)
            count = turned_until_it_comes_again(words, size)
            self.assertEqual(ask(width(bits), chain(0, words), period(0))[2], [count], (bits, words))

    def test_it_is_what_the_words_alone_show(self):
        source = random.Random(52)
        for case in range(60):
            bits = source.choice((1, 2, 3))
            size = 2 ** bits
            words = random_chain(source, size)
            row = words_by_turning(words, 12 * size, size)
            shown = [p for p in range(1, 4 * size + 1) if row[p:] == row[:len(row) - p]]
            self.assertEqual(ask(width(bits), chain(0, words), period(0))[2], [min(shown)], (bits, words))

    def test_32_bits_against_turning_far(self):
        source = random.Random(53)
        for case in range(150):
            words = random_chain(source, SIZE_32)
            shift = 2 ** source.randrange(32)
            words = trimmed([word * shift % SIZE_32 for word in words])
            count = ask(width(32), chain(0, words), period(0))[2][0]
            self.assertEqual(turned_far(words, count, SIZE_32), words)
            if count > 1:
                self.assertEqual(count % 2, 0)
                self.assertNotEqual(turned_far(words, count // 2, SIZE_32), words)

    def test_in_short_time(self):
        begun = time.perf_counter()
        for case in range(50):
            ask(width(32), chain(0, [GREATEST] * 8), *[period(0)] * 38)
        self.assertLess(time.perf_counter() - begun, 20)

    def test_a_chain_that_is_not_0_to_7(self):
        for x in (8, 9, 256, GREATEST):
            with self.subTest(x=x):
                self.assertEqual(ask(period(x)), [[-2]])


class SameTest(unittest.TestCase):
    def test_a_chain_and_itself(self):
        found = ask(chain(0, [1, 2, 3]), same(0, 0), same(1, 1))
        self.assertEqual(found[1:], [[1], [1]])

    def test_noughts_at_the_end_make_no_difference(self):
        found = ask(chain(0, [1, 2]), chain(1, [1, 2, 0, 0]), same(0, 1), chain(2, [0, 0]), same(2, 3))
        self.assertEqual([found[2], found[4]], [[1], [1]])

    def test_chains_put_in_different_ways(self):
        fill = [chain(0, [9, 5, 3]), chain(1, [4, 0, 250]), plus(2, 0, 1), less(3, 2, 1)]
        self.assertEqual(ask(*fill, same(0, 3), same(3, 0), same(0, 2))[4:], [[1], [1], [0]])
        fill = [chain(0, [0, 1]), chain(1, [0, 1, 2]), times(2, 0, 0), ahead(3, 0, 256), every(4, 0, 257)]
        self.assertEqual(ask(*fill, same(1, 2), same(0, 3), same(0, 4), same(0, 1))[5:], [[1], [1], [1], [0]])
        fill = [chain(0, [7]), chain(1, [0, 7]), sums(2, 0)]
        self.assertEqual(ask(*fill, same(1, 2), same(2, 1), same(0, 2))[3:], [[1], [1], [0]])

    def test_different_ones(self):
        fill = [chain(0, [1, 2, 3]), chain(1, [1, 2]), chain(2, [1, 2, 4]), chain(3, [2, 2, 3]), chain(4, [1, 3, 3])]
        found = ask(*fill, *[same(0, x) for x in range(1, 6)], *[same(x, 0) for x in range(1, 6)])
        self.assertEqual(found[5:], [[0]] * 10)

    def test_different_only_after_7_turns(self):
        fill = [width(32), chain(0, [5] * 7), chain(1, [5] * 8)]
        found = ask(*fill, same(0, 1), at(0, 6), at(1, 6), at(0, 7), at(1, 7))
        self.assertEqual(found[3], [0])
        self.assertEqual(found[4], found[5])
        self.assertNotEqual(found[6], found[7])

    def test_asking_changes_nothing(self):
        self.assertEqual(ask(chain(0, [1, 2]), same(0, 1), shows(0), shows(1))[2:], [[2, 1, 2], [1, 0]])

    def test_against_the_words(self):
        source = random.Random(54)
        counts = [0, 0]
        for case in range(400):
            bits = source.choice((1, 2))
            size = 2 ** bits
            first = random_chain(source, size, 3)
            second = random_chain(source, size, 3)
            answer = 1 if words_by_turning(first, 20, size) == words_by_turning(second, 20, size) else 0
            counts[answer] = counts[answer] + 1
            found = ask(width(bits), chain(6, first), chain(7, second), same(6, 7), same(7, 6))
            self.assertEqual(found[3:], [[answer]] * 2, (bits, first, second))
        self.assertGreater(min(counts), 20)

    def test_a_chain_that_is_not_0_to_7(self):
        for x in (8, 9, 256, GREATEST):
            with self.subTest(x=x):
                self.assertEqual(ask(same(x, 0), same(0, x), same(x, x)), [[-2]] * 3)


if __name__ == "__main__":
    unittest.main()
