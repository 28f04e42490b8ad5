import random
import unittest

from support import GREATEST, ask, at, chain, less, plus, shows, width, words_by_turning
from wrappingturns.table import Table


class PlusLessTest(unittest.TestCase):
    def test_chains_of_the_same_length(self):
        fill = [chain(0, [250, 3]), chain(1, [10, 4])]
        self.assertEqual(ask(*fill, plus(2, 0, 1), shows(2))[2:], [[2, 4, 7]] * 2)
        self.assertEqual(ask(*fill, less(2, 0, 1), shows(2))[2:], [[2, 240, 255]] * 2)
        self.assertEqual(ask(*fill, less(2, 1, 0), shows(2))[2:], [[2, 16, 1]] * 2)

    def test_chains_of_different_length(self):
        fill = [chain(0, [1, 2, 3, 4]), chain(1, [5])]
        found = ask(*fill, plus(2, 0, 1), plus(2, 1, 0), less(2, 0, 1), less(2, 1, 0))
        self.assertEqual(found[2:], [[4, 6, 2, 3, 4], [4, 6, 2, 3, 4], [4, 252, 2, 3, 4], [4, 4, 254, 253, 252]])

    def test_z_the_same_as_x_or_y(self):
        fill = [chain(0, [9, 5]), chain(1, [2, 3, 1])]
        for call, z, words in (
            (plus(0, 0, 1), 0, [3, 11, 8, 1]), (plus(1, 0, 1), 1, [3, 11, 8, 1]), (plus(0, 0, 0), 0, [2, 18, 10]),
            (less(0, 0, 1), 0, [3, 7, 2, 255]), (less(1, 0, 1), 1, [3, 7, 2, 255]), (less(1, 1, 1), 1, [1, 0]),
        ):
            with self.subTest(call=call):
                found = ask(*fill, call, shows(0), shows(1))
                before = [[2, 9, 5], [3, 2, 3, 1]]
                before[z] = words
                self.assertEqual(found[2:], [words] + before)

    def test_x_and_y_stay_as_they_were(self):
        fill = [chain(0, [9, 5]), chain(1, [2, 3, 1])]
        for call in (plus(2, 0, 1), less(2, 0, 1)):
            with self.subTest(call=call):
                self.assertEqual(ask(*fill, call, shows(0), shows(1))[3:], [[2, 9, 5], [3, 2, 3, 1]])

    def test_z_does_not_follow_x_later(self):
        found = ask(chain(0, [9, 5]), plus(2, 0, 1), chain(0, [1]), shows(2), plus(0, 2, 2), shows(2))
        self.assertEqual([found[3], found[5]], [[2, 9, 5]] * 2)

    def test_an_answer_that_gets_shorter(self):
        fill = [chain(0, [1, 2, 200]), chain(1, [1, 254, 56]), chain(2, [4, 2, 200])]
        found = ask(*fill, plus(3, 0, 1), less(3, 2, 0), less(3, 0, 0), plus(4, 3, 3))
        self.assertEqual(found[3:], [[1, 2], [1, 3], [1, 0], [1, 0]])

    def test_8_words_never_get_too_many(self):
        fill = [width(32), chain(0, [GREATEST] * 8), chain(1, [1] * 8), chain(2, [5] * 8)]
        found = ask(*fill, plus(3, 0, 0), plus(3, 0, 1), less(3, 1, 2))
        self.assertEqual(found[4:], [[8] + [GREATEST - 1] * 8, [1, 0], [8] + [GREATEST - 3] * 8])

    def test_the_table_takes_no_chain_of_more_than_8_words(self):
        table = Table()
        self.assertTrue(table.put(0, [1] * 8 + [0, 0]))
        self.assertFalse(table.put(0, [2] * 9))
        self.assertEqual(table.words_of(0), [1] * 8)

    def test_a_chain_that_is_not_0_to_7_leaves_all_as_it_was(self):
        fill = [chain(x, [x + 1, 1]) for x in range(8)]
        show = [shows(x) for x in range(8)]
        for number in (8, 9, 256, GREATEST):
            for make in (plus, less):
                with self.subTest(number=number, make=make):
                    refused = [make(number, 1, 2), make(0, number, 2), make(0, 1, number), make(number, number, number)]
                    found = ask(*fill, *refused, *show)
                    self.assertEqual(found[8:12], [[-2]] * 4)
                    self.assertEqual(found[12:], [[2, x + 1, 1] for x in range(8)])

    def test_the_words_are_the_sum_and_the_difference_after_each_turn(self):
        source = random.Random(9)
        for case in range(150):
            bits = source.choice((1, 2, 8, 32))
            size = 2 ** bits
            first = [source.randrange(size) for place in range(source.randrange(1, 9))]
            second = [source.randrange(size) for place in range(source.randrange(1, 9))]
            make, sign = source.choice(((plus, 1), (less, -1)))
            found = ask(width(bits), chain(0, first), chain(1, second), make(2, 0, 1), *[at(2, k) for k in range(20)])
            pairs = zip(words_by_turning(first, 20, size), words_by_turning(second, 20, size))
            self.assertEqual(found[4:], [[(one + sign * other) % size] for one, other in pairs], (bits, first, second))
            self.assertEqual(found[3][0], len(found[3]) - 1)
            self.assertTrue(found[3][0] == 1 or found[3][-1] != 0)


if __name__ == "__main__":
    unittest.main()
