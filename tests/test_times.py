import random
import unittest
from math import comb

from support import (
    GREATEST, ask, at, chain, differences, random_chain, shows, times, trimmed, turned_far, width, with_count,
    words_by_turning,
)

SIZE_32 = 2 ** 32


def with_last(length, word):
    """A chain of noughts but for its last word."""
    return [0] * (length - 1) + [word]


class TimesTest(unittest.TestCase):
    def test_words_that_are_known(self):
        fill = [chain(0, [3]), chain(1, [100]), chain(2, [0, 1]), chain(3, [2, 3]), chain(4, [1, 2])]
        found = ask(*fill, times(5, 0, 1), times(5, 2, 2), times(5, 3, 4), shows(5))
        # (2 + 3 k)(1 + 2 k) is 2, 15, 40, ...: it grows by 13, 25, ..., and that by 12.
        self.assertEqual(found[5:], [[1, 44], [3, 0, 1, 2], [3, 2, 13, 12], [3, 2, 13, 12]])

    def test_0_alone_makes_0_alone(self):
        fill = [width(32), chain(0, [GREATEST] * 8)]
        self.assertEqual(ask(*fill, times(2, 0, 1), times(2, 1, 0), times(2, 1, 1))[2:], [[1, 0]] * 3)

    def test_1_alone_changes_nothing(self):
        fill = [width(32), chain(0, [7, 0, 6, 5, 4, 3, 2, 1]), chain(1, [1])]
        self.assertEqual(ask(*fill, times(2, 0, 1), times(3, 1, 0))[3:], [[8, 7, 0, 6, 5, 4, 3, 2, 1]] * 2)

    def test_lengths_that_make_8_words(self):
        for length in range(1, 9):
            with self.subTest(length=length):
                other = 9 - length
                last = comb(7, length - 1)
                found = ask(width(32), chain(0, [1] * length), chain(1, [1] * other), times(2, 0, 1))[3]
                self.assertEqual((found[0], len(found), found[-1]), (8, 9, last))

    def test_lengths_that_make_9_words_and_more_are_refused(self):
        for length in range(2, 9):
            for other in range(10 - length, 9):
                with self.subTest(length=length, other=other):
                    first = [5] * length
                    second = [3] * other
                    fill = [width(32), chain(0, first), chain(1, second), chain(2, [4, 5, 6])]
                    found = ask(*fill, times(2, 0, 1), times(0, 0, 1), times(1, 0, 1), shows(0), shows(1), shows(2))
                    self.assertEqual(found[4:7], [[-5]] * 3)
                    self.assertEqual(found[7:], [[length] + first, [other] + second, [3, 4, 5, 6]])

    def test_more_than_8_places_with_noughts_at_the_end_are_put(self):
        # The last place of two chains with one word each behind noughts has that many choices times both words.
        for bits, length, other, word in ((8, 5, 5, 16), (8, 8, 8, 16), (4, 8, 2, 4), (4, 8, 8, 4), (2, 8, 8, 2)):
            with self.subTest(bits=bits, length=length, other=other):
                fill = [width(bits), chain(0, with_last(length, word)), chain(1, with_last(other, word))]
                self.assertEqual(ask(*fill, times(2, 0, 1), shows(2))[3:], [[1, 0]] * 2)

    def test_a_ninth_place_that_is_nought_by_its_choices(self):
        # The 9th place has comb(8, 1) = 8 times both words: nought with 3 bits, though both words are odd.
        expected = trimmed(differences(
            [one * other % 8 for one, other in zip(words_by_turning([1] * 8, 12, 8), words_by_turning([1, 1], 12, 8))], 8))
        self.assertEqual(len(expected), 8)
        found = ask(width(3), chain(0, [1] * 8), chain(1, [1, 1]), times(2, 0, 1), shows(2))
        self.assertEqual(found[3:], [with_count(expected)] * 2)
        self.assertEqual(ask(width(4), chain(0, [1] * 8), chain(1, [1, 1]), times(2, 0, 1), shows(2))[3:], [[-5], [1, 0]])

    def test_a_tenth_place_that_is_not_nought_behind_a_ninth_that_is(self):
        first = [0, 0, 0, 0, 0, 0, 0, 1]
        second = [0, 0, 1]
        products = [comb(k, 7) * comb(k, 2) for k in range(12)]
        places = differences(products, 2 ** 40)
        self.assertEqual(places[7:10], [21, 56, 36])
        # With 3 bits 56 is nought and 36 isn't: there are 10 words.
        self.assertEqual(ask(width(3), chain(0, first), chain(1, second), times(2, 0, 1))[3], [-5])
        self.assertEqual(ask(width(2), chain(0, first), chain(1, second), times(2, 0, 1))[3], [8] + [0] * 7 + [1])

    def test_z_the_same_as_x_or_y(self):
        fill = [chain(0, [2, 3]), chain(1, [1, 2])]
        for call, z, words in (
            (times(0, 0, 1), 0, [3, 2, 13, 12]), (times(1, 0, 1), 1, [3, 2, 13, 12]),
            (times(0, 0, 0), 0, [3, 4, 21, 18]), (times(1, 0, 0), 1, [3, 4, 21, 18]),
        ):
            with self.subTest(call=call):
                before = [[2, 2, 3], [2, 1, 2]]
                before[z] = words
                self.assertEqual(ask(*fill, call, shows(0), shows(1))[2:], [words] + before)

    def test_x_and_y_stay_as_they_were(self):
        found = ask(chain(0, [2, 3]), chain(1, [1, 2]), times(2, 0, 1), shows(0), shows(1))
        self.assertEqual(found[3:], [[2, 2, 3], [2, 1, 2]])

    def test_a_chain_that_is_not_0_to_7_leaves_all_as_it_was(self):
        fill = [chain(x, [x + 1, 1]) for x in range(8)]
        for number in (8, 9, 256, GREATEST):
            with self.subTest(number=number):
                refused = [times(number, 1, 2), times(0, number, 2), times(0, 1, number), times(*[number] * 3)]
                found = ask(*fill, *refused, *[shows(x) for x in range(8)])
                self.assertEqual(found[8:12], [[-2]] * 4)
                self.assertEqual(found[12:], [[2, x + 1, 1] for x in range(8)])

    def test_no_such_chain_is_told_ahead_of_too_many_words(self):
        found = ask(width(32), chain(0, [1] * 8), times(8, 0, 0), times(1, 0, 0))
        self.assertEqual(found[2:], [[-2], [-5]])

    def test_the_words_are_the_products_after_each_turn(self):
        source = random.Random(21)
        put = 0
        refused = 0
        for case in range(600):
            bits = source.choice((1, 2, 3, 4, 8, 32))
            size = 2 ** bits
            first = random_chain(source, size)
            second = random_chain(source, size)
            pairs = zip(words_by_turning(first, 30, size), words_by_turning(second, 30, size))
            products = [one * other % size for one, other in pairs]
            expected = with_count(differences(products, size))
            found = ask(width(bits), chain(0, first), chain(1, second), times(2, 0, 1), *[at(2, k) for k in range(30)])
            if expected[0] > 8:
                refused = refused + 1
                self.assertEqual(found[3:], [[-5]] + [[0]] * 30, (bits, first, second))
            else:
                put = put + 1
                self.assertEqual(found[3:], [expected] + [[word] for word in products], (bits, first, second))
        self.assertGreater(min(put, refused), 100)

    def test_the_words_are_the_products_far_on(self):
        source = random.Random(22)
        for case in range(100):
            first = [source.randrange(1, SIZE_32) for place in range(source.randrange(1, 9))]
            second = [source.randrange(1, SIZE_32) for place in range(9 - len(first))]
            turns_asked = [GREATEST, 2 ** 31, source.randrange(SIZE_32)]
            found = ask(width(32), chain(0, first), chain(1, second), times(0, 0, 1), *[at(0, k) for k in turns_asked])
            expected = [[turned_far(first, k, SIZE_32)[0] * turned_far(second, k, SIZE_32)[0] % SIZE_32]
                        for k in turns_asked]
            self.assertEqual(found[4:], expected, (first, second))


if __name__ == "__main__":
    unittest.main()
