import unittest

from support import GREATEST, ask, at, chain, shows, turns, width


class WidthTest(unittest.TestCase):
    def test_each_width_from_1_to_32_is_answered(self):
        for n in range(1, 33):
            with self.subTest(n=n):
                self.assertEqual(ask(width(n)), [[n]])

    def test_other_widths_are_refused(self):
        for n in (0, 33, 34, 64, GREATEST):
            with self.subTest(n=n):
                self.assertEqual(ask(width(n)), [[-1]])

    def test_the_greatest_word_of_each_width(self):
        for n in range(1, 33):
            with self.subTest(n=n):
                greatest = 2 ** n - 1
                self.assertEqual(ask(width(n), chain(0, [greatest]))[1], [1, greatest])
                if n < 32:
                    self.assertEqual(ask(width(n), chain(0, [greatest + 1]))[1], [-1])

    def test_words_have_8_bits_at_the_beginning(self):
        self.assertEqual(ask(chain(0, [255])), [[1, 255]])
        self.assertEqual(ask(chain(0, [256])), [[-1]])
        self.assertEqual(ask(turns(2, 255, 1, 0)), [[1, 1, 0]])

    def test_all_chains_are_0_alone_at_the_beginning(self):
        self.assertEqual(ask(*[shows(x) for x in range(8)]), [[1, 0]] * 8)

    def test_a_width_again_makes_all_chains_0_alone(self):
        fill = [chain(x, [x + 1, 2]) for x in range(8)]
        show = [shows(x) for x in range(8)]
        for n in (8, 3, 32):
            with self.subTest(n=n):
                self.assertEqual(ask(*fill, width(n), *show)[8:], [[n]] + [[1, 0]] * 8)

    def test_the_last_width_counts(self):
        found = ask(width(32), chain(0, [GREATEST]), width(4), chain(0, [16]), chain(0, [15, 1]), at(0, 1))
        self.assertEqual(found, [[32], [1, GREATEST], [4], [-1], [2, 15, 1], [0]])

    def test_a_refused_width_changes_nothing(self):
        for n in (0, 33, GREATEST):
            with self.subTest(n=n):
                found = ask(width(5), chain(3, [31, 1]), width(n), shows(3), at(3, 1), chain(2, [32]))
                self.assertEqual(found[2:], [[-1], [2, 31, 1], [0], [-1]])

    def test_a_refused_width_at_the_beginning_leaves_8_bits(self):
        self.assertEqual(ask(width(33), chain(0, [255]), chain(0, [256])), [[-1], [1, 255], [-1]])


if __name__ == "__main__":
    unittest.main()
