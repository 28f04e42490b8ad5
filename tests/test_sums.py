import random
import unittest

from support import (
    GREATEST, ask, at, chain, random_chain, shows, sum_of, sums, turned_far, width, with_count, words_by_turning,
)

SIZE_32 = 2 ** 32


class SumsTest(unittest.TestCase):
    def test_1_word(self):
        self.assertEqual(ask(chain(0, [7]), sums(1, 0), shows(1), shows(0))[1:], [[2, 0, 7], [2, 0, 7], [1, 7]])

    def test_several_words(self):
        found = ask(chain(0, [7, 200, 3]), sums(1, 0), at(1, 0), at(1, 1), at(1, 2), at(1, 3))
        self.assertEqual(found[1:], [[4, 0, 7, 200, 3], [0], [7], [214], [(214 + 410) % 256]])

    def test_0_alone_stays_0_alone(self):
        self.assertEqual(ask(sums(1, 0), shows(1), sums(0, 0), shows(0)), [[1, 0]] * 4)

    def test_7_words_make_8(self):
        found = ask(width(32), chain(0, [GREATEST] * 7), sums(1, 0), shows(1))
        self.assertEqual(found[2:], [[8, 0] + [GREATEST] * 7] * 2)

    def test_8_words_are_refused_and_all_is_as_it_was(self):
        for bits, last in ((1, 1), (8, 128), (32, 2 ** 31), (32, 1)):
            with self.subTest(bits=bits, last=last):
                words = [0] * 7 + [last]
                fill = [width(bits), chain(0, words), chain(1, [1, 0, 1])]
                found = ask(*fill, sums(1, 0), sums(0, 0), shows(0), shows(1))
                self.assertEqual(found[3:], [[-5], [-5], [8] + words, [3, 1, 0, 1]])

    def test_z_the_same_as_x_until_there_are_too_many(self):
        found = ask(chain(0, [3]), *[sums(0, 0)] * 9, shows(0))
        self.assertEqual(found[1:8], [[2 + k] + [0] * (k + 1) + [3] for k in range(7)])
        self.assertEqual(found[8:], [[-5], [-5], [8, 0, 0, 0, 0, 0, 0, 0, 3]])

    def test_a_chain_that_is_not_0_to_7_leaves_all_as_it_was(self):
        fill = [chain(x, [x + 1, 1]) for x in range(8)]
        for number in (8, 9, 256, GREATEST):
            with self.subTest(number=number):
                found = ask(*fill, sums(number, 1), sums(0, number), sums(number, number), *[shows(x) for x in range(8)])
                self.assertEqual(found[8:11], [[-2]] * 3)
                self.assertEqual(found[11:], [[2, x + 1, 1] for x in range(8)])

    def test_no_such_chain_is_told_ahead_of_too_many_words(self):
        self.assertEqual(ask(chain(0, [1] * 8), sums(8, 0), sums(1, 0))[1:], [[-2], [-5]])

    def test_the_words_are_the_sums(self):
        source = random.Random(41)
        for case in range(150):
            bits = source.choice((1, 2, 3, 8, 32))
            size = 2 ** bits
            words = random_chain(source, size, 7)
            row = words_by_turning(words, 15, size)
            expected = [[sum(row[:k]) % size] for k in range(15)]
            calls = [call for k in range(15) for call in (at(1, k), sum_of(0, k))]
            found = ask(width(bits), chain(0, words), sums(1, 0), *calls)
            self.assertEqual(found[3::2], expected, (bits, words))
            self.assertEqual(found[4::2], expected, (bits, words))
            self.assertEqual(found[2], with_count([0] + words))

    def test_the_words_are_the_sums_far_on(self):
        source = random.Random(42)
        for case in range(60):
            words = [source.randrange(1, SIZE_32) for place in range(source.randrange(1, 8))]
            for k in (GREATEST, 2 ** 31, source.randrange(SIZE_32)):
                found = ask(width(32), chain(0, words), sums(1, 0), at(1, k), sum_of(0, k))
                self.assertEqual(found[3:], [turned_far([0] + words, k, SIZE_32)[:1]] * 2, (words, k))


if __name__ == "__main__":
    unittest.main()
