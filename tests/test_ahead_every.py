import random
import time
import unittest

from support import (
    GREATEST, ahead, ask, at, chain, every, random_chain, shows, turned_far, turned_once, width, with_count,
    words_by_turning,
)

SIZE_32 = 2 ** 32


class AheadTest(unittest.TestCase):
    def test_0_turns_1_turn_and_2(self):
        fill = [chain(0, [250, 9, 3])]
        found = ask(*fill, ahead(1, 0, 0), ahead(1, 0, 1), ahead(1, 0, 2), shows(1), shows(0))
        self.assertEqual(found[1:], [[3, 250, 9, 3], [3, 3, 12, 3], [3, 15, 15, 3], [3, 15, 15, 3], [3, 250, 9, 3]])

    def test_0_alone_and_1_word(self):
        found = ask(chain(1, [7]), ahead(2, 0, GREATEST), ahead(3, 1, GREATEST))
        self.assertEqual(found[1:], [[1, 0], [1, 7]])

    def test_z_the_same_as_x(self):
        self.assertEqual(ask(chain(0, [1, 2]), ahead(0, 0, 5), ahead(0, 0, 5), shows(0))[1:],
                         [[2, 11, 2], [2, 21, 2], [2, 21, 2]])

    def test_the_turns_may_be_no_word(self):
        found = ask(width(1), chain(0, [0, 1]), ahead(1, 0, 2), ahead(1, 0, GREATEST))
        self.assertEqual(found[2:], [[2, 0, 1], [2, 1, 1]])

    def test_8_words_never_get_too_many(self):
        found = ask(width(32), chain(0, [GREATEST] * 8), ahead(0, 0, GREATEST))
        self.assertEqual(found[2], with_count(turned_far([GREATEST] * 8, GREATEST, SIZE_32)))

    def test_against_turning_one_by_one(self):
        source = random.Random(31)
        for case in range(150):
            bits = source.choice((1, 2, 3, 8, 31, 32))
            size = 2 ** bits
            words = random_chain(source, size)
            now = words
            expected = []
            for d in range(37):
                expected.append(with_count(now))
                now = turned_once(now, size)
            found = ask(width(bits), chain(0, words), *[ahead(1, 0, d) for d in range(37)])
            self.assertEqual(found[2:], expected, (bits, words))

    def test_up_to_the_greatest_number_of_turns(self):
        source = random.Random(32)
        for case in range(15):
            words = [source.choice((GREATEST, source.randrange(SIZE_32))) for place in range(7)] + [GREATEST]
            for d in (GREATEST, GREATEST - 1, 2 ** 31, 2 ** 31 - 1, source.randrange(SIZE_32)):
                found = ask(width(32), chain(6, words), ahead(5, 6, d), at(5, 0), at(5, GREATEST), ahead(5, 5, 1))
                self.assertEqual(found[2], with_count(turned_far(words, d, SIZE_32)), (words, d))
                self.assertEqual(found[3:5], [turned_far(words, d + k, SIZE_32)[:1] for k in (0, GREATEST)], (words, d))
                self.assertEqual(found[5], with_count(turned_once(found[2][1:], SIZE_32)), (words, d))


class EveryTest(unittest.TestCase):
    def test_every_0_1_and_2_turns(self):
        fill = [chain(0, [250, 9, 3])]
        found = ask(*fill, every(1, 0, 0), every(1, 0, 1), every(1, 0, 2), shows(1), shows(0))
        # Its words after 0, 2, 4 turns are 250, 271, 304: these grow by 21 and 33.
        self.assertEqual(found[1:], [[1, 250], [3, 250, 9, 3], [3, 250, 21, 12], [3, 250, 21, 12], [3, 250, 9, 3]])

    def test_every_0_turns_of_a_chain_that_begins_with_nought(self):
        self.assertEqual(ask(chain(0, [0, 9, 3]), every(1, 0, 0), shows(1))[1:], [[1, 0]] * 2)

    def test_0_alone_and_1_word(self):
        found = ask(chain(1, [7]), every(2, 0, GREATEST), every(3, 1, GREATEST), every(3, 1, 0))
        self.assertEqual(found[1:], [[1, 0], [1, 7], [1, 7]])

    def test_a_chain_gets_shorter_when_steps_wrap_to_nought(self):
        found = ask(chain(0, [5, 1]), every(1, 0, 256), every(1, 0, 128), every(1, 0, 257))
        self.assertEqual(found[1:], [[1, 5], [2, 5, 128], [2, 5, 1]])

    def test_z_the_same_as_x(self):
        self.assertEqual(ask(chain(0, [1, 2]), every(0, 0, 3), every(0, 0, 3), shows(0))[1:],
                         [[2, 1, 6], [2, 1, 18], [2, 1, 18]])

    def test_against_turning_one_by_one(self):
        source = random.Random(33)
        for case in range(150):
            bits = source.choice((1, 2, 3, 8, 31, 32))
            size = 2 ** bits
            words = random_chain(source, size)
            d = source.randrange(0, 20)
            row = words_by_turning(words, 20 * d + 1, size)
            found = ask(width(bits), chain(0, words), every(1, 0, d), *[at(1, k) for k in range(21)], shows(1))
            self.assertEqual(found[3:-1], [[row[k * d]] for k in range(21)], (bits, words, d))
            self.assertEqual(found[2], found[-1])
            self.assertEqual(found[2], with_count(found[2][1:]))

    def test_up_to_the_greatest_number_of_turns(self):
        source = random.Random(34)
        for case in range(15):
            words = [source.choice((GREATEST, source.randrange(SIZE_32))) for place in range(7)] + [GREATEST]
            for d in (GREATEST, GREATEST - 1, 2 ** 31, 2 ** 31 + 1, source.randrange(SIZE_32)):
                turns_asked = [0, 1, 2, 7, 8, 9, source.randrange(SIZE_32), GREATEST]
                found = ask(width(32), chain(6, words), every(5, 6, d), *[at(5, k) for k in turns_asked])
                self.assertEqual(found[3:], [turned_far(words, d * k, SIZE_32)[:1] for k in turns_asked], (words, d))
                self.assertEqual(found[2], with_count(found[2][1:]))
                self.assertLessEqual(found[2][0], 8)


class BothTest(unittest.TestCase):
    def test_a_chain_that_is_not_0_to_7_leaves_all_as_it_was(self):
        fill = [chain(x, [x + 1, 1]) for x in range(8)]
        for number in (8, 9, 256, GREATEST):
            for make in (ahead, every):
                with self.subTest(number=number, make=make):
                    refused = [make(number, 1, 2), make(0, number, 2), make(number, number, number)]
                    found = ask(*fill, *refused, *[shows(x) for x in range(8)])
                    self.assertEqual(found[8:11], [[-2]] * 3)
                    self.assertEqual(found[11:], [[2, x + 1, 1] for x in range(8)])

    def test_the_turns_are_no_chain(self):
        found = ask(chain(0, [1, 1]), ahead(1, 0, 8), every(1, 0, 8))
        self.assertEqual(found[1:], [[2, 9, 1], [2, 1, 8]])

    def test_far_on_in_short_time(self):
        begun = time.perf_counter()
        for case in range(100):
            ask(width(32), chain(0, [GREATEST] * 8), *[ahead(0, 0, GREATEST)] * 19, *[every(0, 0, GREATEST)] * 19)
        self.assertLess(time.perf_counter() - begun, 20)


if __name__ == "__main__":
    unittest.main()
