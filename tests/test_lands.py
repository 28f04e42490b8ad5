import random
import time
import unittest
from math import gcd

from support import GREATEST, ask, ask_many, lands, stepped_landing, width

SIZE_32 = 2 ** 32


def solved_landing(a, s, lo, hi):
    """The first landing with 32 bits, found by solving for each word of the range."""
    common = gcd(s, SIZE_32)
    period = SIZE_32 // common
    found = [(target - a) // common * pow(s // common, -1, period) % period
             for target in range(lo, hi + 1) if (target - a) % common == 0]
    if not found:
        return [0]
    return [1, min(found), (a + min(found) * s) % SIZE_32]


class LandsTest(unittest.TestCase):
    def test_after_some_turns(self):
        self.assertEqual(ask(lands(0, 5, 18, 22)), [[1, 4, 20]])
        self.assertEqual(ask(lands(250, 5, 3, 4)), [[1, 2, 4]])
        self.assertEqual(ask(lands(3, 255, 250, 252)), [[1, 7, 252]])

    def test_after_0_turns(self):
        for a in (10, 15, 20):
            with self.subTest(a=a):
                self.assertEqual(ask(lands(a, 3, 10, 20)), [[1, 0, a]])
        self.assertEqual(ask(lands(7, 0, 0, 255)), [[1, 0, 7]])

    def test_never(self):
        self.assertEqual(ask(lands(0, 2, 5, 5)), [[0]])
        self.assertEqual(ask(lands(1, 64, 2, 64)), [[0]])
        self.assertEqual(ask(lands(9, 0, 10, 255)), [[0]])
        self.assertEqual(ask(lands(9, 0, 0, 8)), [[0]])

    def test_one_word_to_land_on(self):
        self.assertEqual(ask(lands(0, 3, 1, 1)), [[1, 171, 1]])
        self.assertEqual(ask(lands(4, 3, 4, 4)), [[1, 0, 4]])
        self.assertEqual(ask(lands(5, 1, 4, 4)), [[1, 255, 4]])

    def test_the_edges_of_the_range_are_in_it(self):
        self.assertEqual(ask(lands(0, 10, 20, 25)), [[1, 2, 20]])
        self.assertEqual(ask(lands(0, 10, 15, 20)), [[1, 2, 20]])
        self.assertEqual(ask(lands(0, 1, 255, 255)), [[1, 255, 255]])
        self.assertEqual(ask(lands(1, 1, 0, 0)), [[1, 255, 0]])

    def test_high_below_low_is_refused(self):
        for call in (lands(0, 1, 5, 4), lands(5, 1, 255, 0), lands(0, 0, 1, 0)):
            with self.subTest(call=call):
                self.assertEqual(ask(call), [[-1]])

    def test_a_number_that_is_no_word(self):
        for number in (256, 300, GREATEST):
            with self.subTest(number=number):
                found = ask(lands(number, 1, 1, 2), lands(1, number, 1, 2), lands(1, 1, number, number),
                            lands(1, 1, 1, number), lands(1, 1, number, 2))
                self.assertEqual(found, [[-1]] * 5)

    def test_small_widths_against_stepping_one_by_one(self):
        for bits in range(1, 5):
            size = 2 ** bits
            asked = [(a, s, lo, hi) for a in range(size) for s in range(size)
                     for lo in range(size) for hi in range(lo, size)]
            found = ask_many(bits, [lands(*numbers) for numbers in asked])
            for numbers, answer in zip(asked, found):
                self.assertEqual(answer, stepped_landing(*numbers, size), (bits, numbers))

    def test_middle_widths_against_stepping_one_by_one(self):
        source = random.Random(4)
        for bits in (6, 8, 10, 12):
            size = 2 ** bits
            asked = []
            for case in range(1000):
                lo = source.randrange(size)
                hi = min(size - 1, lo + source.choice((0, 1, 2, 5, 20)))
                asked.append((source.randrange(size), source.randrange(size), lo, hi))
            found = ask_many(bits, [lands(*numbers) for numbers in asked])
            for numbers, answer in zip(asked, found):
                self.assertEqual(answer, stepped_landing(*numbers, size), (bits, numbers))

    def test_32_bits_against_solving_for_each_word(self):
        source = random.Random(5)
        for case in range(400):
            a = source.randrange(SIZE_32)
            s = source.randrange(SIZE_32) >> source.randrange(32) << source.randrange(8)
            s = max(1, s % SIZE_32)
            lo = source.randrange(SIZE_32)
            hi = min(GREATEST, lo + source.randrange(40))
            self.assertEqual(ask(width(32), lands(a, s, lo, hi))[1], solved_landing(a, s, lo, hi), (a, s, lo, hi))

    def test_32_bits_in_short_time(self):
        self.assertEqual(ask(width(32), lands(0, 1, GREATEST, GREATEST), lands(0, GREATEST, 1, 1))[1:],
                         [[1, GREATEST, GREATEST], [1, GREATEST, 1]])
        source = random.Random(6)
        begun = time.perf_counter()
        for case in range(100):
            words = [source.randrange(SIZE_32) for call in range(39)]
            ask(width(32), *[lands(1, s, s // 2, s // 2) for s in words])
        self.assertLess(time.perf_counter() - begun, 20)


if __name__ == "__main__":
    unittest.main()
