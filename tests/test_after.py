import random
import time
import unittest

from support import (
    GREATEST, after, ask, chain, random_chain, shows, turned_far, turned_loop, width, words_by_turning,
)

SIZE_32 = 2 ** 32


class AfterTest(unittest.TestCase):
    def test_few_turns(self):
        # 3, 6, 9 are less than 12: there are 3 turns, and the chain's words are 7, 9, 12, 16.
        self.assertEqual(ask(chain(0, [7, 2, 1]), after(0, 0, 3, 3, 12), shows(0))[1:], [[1, 16], [3, 7, 2, 1]])

    def test_0_turns(self):
        found = ask(chain(0, [7, 2, 1]), after(0, 0, 12, 3, 12), after(0, 2, 5, 0, 5), after(0, 5, 3, 1, 128))
        self.assertEqual(found[1:], [[1, 7]] * 3)

    def test_for_ever(self):
        fill = [chain(0, [7, 2, 1])]
        found = ask(*fill, after(0, 1, 3, 1, 255), after(0, 2, 1, 2, 4), after(0, 0, 3, 0, 4), after(0, 8, 3, 1, 128))
        self.assertEqual(found[1:], [[0]] * 4)

    def test_a_word_that_is_0_after_the_loop_is_told_behind_1(self):
        self.assertEqual(ask(after(3, 0, 0, 1, 9), after(3, 1, 0, 1, 255)), [[1, 0], [0]])

    def test_each_relation(self):
        words = [1, 1]
        for r in range(9):
            for a, s, b in ((3, 3, 12), (12, 253, 3), (120, 5, 200), (200, 7, 120), (9, 2, 9), (255, 255, 0)):
                with self.subTest(r=r, a=a, s=s, b=b):
                    loop = turned_loop(r, a, s, b, 256)
                    expected = [0] if loop == [0] else [1, (1 + loop[1]) % 256]
                    self.assertEqual(ask(chain(4, words), after(4, r, a, s, b))[1], expected)

    def test_thousands_of_millions_of_turns(self):
        found = ask(
            width(32), chain(0, [5, 3]), after(0, 2, 0, 3, 1), after(0, 0, 0, 1, GREATEST), after(0, 2, 0, 2, GREATEST),
        )
        self.assertEqual(found[2:], [[1, (5 + 3 * 2863311531) % SIZE_32], [1, (5 + 3 * GREATEST) % SIZE_32], [0]])

    def test_thousands_of_millions_of_turns_of_8_words(self):
        source = random.Random(61)
        for case in range(100):
            words = [source.choice((GREATEST, source.randrange(SIZE_32))) for place in range(7)] + [GREATEST]
            a = source.randrange(SIZE_32)
            s = source.randrange(1, SIZE_32, 2)
            b = source.randrange(SIZE_32)
            count = (b - a) * pow(s, -1, SIZE_32) % SIZE_32
            found = ask(width(32), chain(7, words), after(7, 2, a, s, b))
            self.assertEqual(found[2], [1] + turned_far(words, count, SIZE_32)[:1], (words, a, s, b))

    def test_in_short_time(self):
        source = random.Random(62)
        begun = time.perf_counter()
        for case in range(100):
            calls = [after(0, 2, 1, source.randrange(SIZE_32), source.randrange(SIZE_32)) for call in range(38)]
            ask(width(32), chain(0, [GREATEST] * 8), *calls)
        self.assertLess(time.perf_counter() - begun, 20)

    def test_no_such_relation_is_told_first(self):
        for r in (9, 10, 255, GREATEST):
            with self.subTest(r=r):
                found = ask(after(0, r, 1, 2, 3), after(8, r, 1, 2, 3), after(0, r, 256, 2, 3), after(8, r, 256, 256, 256))
                self.assertEqual(found, [[-4]] * 4)

    def test_no_such_chain_is_told_then(self):
        for x in (8, 9, 255, GREATEST):
            with self.subTest(x=x):
                found = ask(after(x, 0, 1, 2, 3), after(x, 8, 256, 2, 3), after(x, 3, GREATEST, GREATEST, GREATEST))
                self.assertEqual(found, [[-2]] * 3)

    def test_no_word_is_told_last(self):
        for number in (256, 257, GREATEST):
            for r in range(9):
                with self.subTest(number=number, r=r):
                    found = ask(after(7, r, number, 1, 1), after(0, r, 1, number, 1), after(0, r, 1, 1, number))
                    self.assertEqual(found, [[-1]] * 3)

    def test_words_of_other_widths(self):
        self.assertEqual(ask(width(1), after(0, 0, 2, 0, 0), after(0, 0, 0, 0, 2), after(0, 0, 1, 1, 1))[1:],
                         [[-1], [-1], [1, 0]])
        self.assertEqual(ask(width(32), after(0, 0, GREATEST, GREATEST, GREATEST))[1], [1, 0])

    def test_refusals_leave_all_as_it_was(self):
        fill = [chain(x, [x + 1, 1]) for x in range(8)]
        found = ask(*fill, after(0, 9, 1, 1, 1), after(8, 0, 1, 1, 1), after(0, 0, 256, 1, 1), *[shows(x) for x in range(8)])
        self.assertEqual(found[8:], [[-4], [-2], [-1]] + [[2, x + 1, 1] for x in range(8)])

    def test_small_widths_against_turning_one_by_one(self):
        source = random.Random(63)
        for case in range(1500):
            bits = source.choice((1, 2, 3, 4, 8))
            size = 2 ** bits
            words = random_chain(source, size)
            r = source.randrange(9)
            a, s, b = [source.randrange(size) for number in range(3)]
            loop = turned_loop(r, a, s, b, size)
            expected = [0] if loop == [0] else [1, words_by_turning(words, loop[1] + 1, size)[-1]]
            self.assertEqual(ask(width(bits), chain(5, words), after(5, r, a, s, b))[2], expected, (bits, words, r, a, s, b))


if __name__ == "__main__":
    unittest.main()
