import random
import time
import unittest

from support import GREATEST, ask, at, chain, shows, sum_of, turned_far, width, words_by_turning

SIZE_32 = 2 ** 32


class AtSumTest(unittest.TestCase):
    def test_0_turns_and_1_turn(self):
        found = ask(chain(0, [250, 9, 3]), at(0, 0), at(0, 1), sum_of(0, 0), sum_of(0, 1), sum_of(0, 2))
        self.assertEqual(found[1:], [[250], [3], [0], [250], [253]])

    def test_the_words_grow_by_what_was_ahead_of_the_turn(self):
        self.assertEqual(ask(chain(0, [0, 1, 1]), at(0, 1), at(0, 2), at(0, 3))[1:], [[1], [3], [6]])

    def test_0_alone_stays_0(self):
        found = ask(at(4, 0), at(4, GREATEST), sum_of(4, 0), sum_of(4, GREATEST))
        self.assertEqual(found, [[0]] * 4)

    def test_1_word_stays_and_its_sum_wraps(self):
        found = ask(chain(0, [7]), at(0, GREATEST), sum_of(0, 37), sum_of(0, GREATEST))
        self.assertEqual(found[1:], [[7], [3], [7 * GREATEST % 256]])

    def test_the_turns_may_be_no_word(self):
        self.assertEqual(ask(width(1), chain(0, [0, 1]), at(0, 2), at(0, GREATEST), sum_of(0, 3))[2:], [[0], [1], [1]])

    def test_asking_changes_nothing(self):
        self.assertEqual(ask(chain(0, [1, 2]), at(0, 9), sum_of(0, 9), shows(0))[3], [2, 1, 2])

    def test_few_turns_against_turning_one_by_one(self):
        source = random.Random(7)
        for case in range(150):
            bits = source.choice((1, 2, 3, 8, 31, 32))
            size = 2 ** bits
            words = [source.randrange(size) for place in range(source.randrange(1, 9))]
            by_turning = words_by_turning(words, 300, size)
            turns_asked = list(range(17)) + [source.randrange(17, 300)]
            calls = [call for k in turns_asked for call in (at(0, k), sum_of(0, k))]
            expected = [answer for k in turns_asked for answer in ([by_turning[k]], [sum(by_turning[:k]) % size])]
            self.assertEqual(ask(width(bits), chain(0, words), *calls)[2:], expected, (bits, words))

    def test_up_to_the_greatest_number_of_turns(self):
        source = random.Random(8)
        for case in range(30):
            words = [source.choice((GREATEST, source.randrange(SIZE_32))) for place in range(7)] + [GREATEST]
            for k in (GREATEST, GREATEST - 1, 2 ** 31, source.randrange(SIZE_32)):
                found = ask(width(32), chain(6, words), at(6, k), sum_of(6, k))
                expected = [turned_far(words, k, SIZE_32)[:1], turned_far([0] + words, k, SIZE_32)[:1]]
                self.assertEqual(found[2:], expected, (words, k))

    def test_known_words_far_on(self):
        found = ask(width(32), chain(0, [5, 3]), at(0, GREATEST), sum_of(0, GREATEST), chain(1, [0, 1]), at(1, GREATEST),
                    chain(2, [0, 0, 1]), at(2, GREATEST))
        self.assertEqual(found[2:4] + [found[5], found[7]], [
            [2], [(5 * GREATEST + 3 * (GREATEST * (GREATEST - 1) // 2)) % SIZE_32], [GREATEST],
            [2 ** 31 + 1],
        ])

    def test_far_on_in_short_time(self):
        begun = time.perf_counter()
        for case in range(100):
            ask(width(32), chain(0, [GREATEST] * 8), *[at(0, GREATEST - k) for k in range(19)],
                *[sum_of(0, GREATEST - k) for k in range(19)])
        self.assertLess(time.perf_counter() - begun, 20)

    def test_a_chain_that_is_not_0_to_7(self):
        for x in (8, 9, 256, GREATEST):
            for k in (0, 1, GREATEST):
                with self.subTest(x=x, k=k):
                    self.assertEqual(ask(at(x, k), sum_of(x, k)), [[-2], [-2]])


if __name__ == "__main__":
    unittest.main()
