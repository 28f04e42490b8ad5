import unittest

from support import GREATEST, ask, chain, shows, width

REFUSED_PLACES = (8, 9, 255, 256, GREATEST)


class ChainTest(unittest.TestCase):
    def test_1_to_8_words(self):
        for length in range(1, 9):
            with self.subTest(length=length):
                words = list(range(1, length + 1))
                self.assertEqual(ask(chain(5, words), shows(5)), [[length] + words] * 2)

    def test_no_words_are_refused(self):
        self.assertEqual(ask(chain(1, [4]), chain(1, []), shows(1)), [[1, 4], [-1], [1, 4]])

    def test_more_than_8_words_are_refused(self):
        for length in range(9, 13):
            with self.subTest(length=length):
                found = ask(chain(1, [4]), chain(1, [1] * length), shows(1))
                self.assertEqual(found, [[1, 4], [-1], [1, 4]])

    def test_more_than_8_words_are_refused_with_noughts_at_the_end_too(self):
        self.assertEqual(ask(chain(1, [3] * 8 + [0])), [[-1]])
        self.assertEqual(ask(chain(1, [3] + [0] * 8)), [[-1]])
        self.assertEqual(ask(chain(1, [0] * 12)), [[-1]])

    def test_noughts_at_the_end_are_left_out(self):
        self.assertEqual(ask(chain(0, [5, 0]), shows(0)), [[1, 5]] * 2)
        self.assertEqual(ask(chain(0, [0, 0, 7, 0, 0, 0, 0, 0]), shows(0)), [[3, 0, 0, 7]] * 2)
        self.assertEqual(ask(chain(0, [1, 0, 2, 0]), shows(0)), [[3, 1, 0, 2]] * 2)

    def test_nothing_but_noughts_is_0_alone(self):
        for length in range(1, 9):
            with self.subTest(length=length):
                self.assertEqual(ask(chain(0, [9, 9]), chain(0, [0] * length), shows(0))[1:], [[1, 0]] * 2)

    def test_a_number_that_is_no_word(self):
        for number in (256, 257, GREATEST):
            for place in range(3):
                with self.subTest(number=number, place=place):
                    words = [1, 2, 3]
                    words[place] = number
                    self.assertEqual(ask(chain(2, [6]), chain(2, words), shows(2))[1:], [[-1], [1, 6]])

    def test_what_is_a_word_goes_by_the_width(self):
        self.assertEqual(ask(width(1), chain(0, [1, 1]), chain(0, [2])), [[1], [2, 1, 1], [-1]])
        self.assertEqual(ask(width(32), chain(0, [GREATEST] * 8))[1], [8] + [GREATEST] * 8)

    def test_a_chain_that_is_not_0_to_7(self):
        for x in REFUSED_PLACES:
            with self.subTest(x=x):
                self.assertEqual(ask(chain(x, [1])), [[-2]])
                self.assertEqual(ask(shows(x)), [[-2]])

    def test_the_refused_chain_is_told_ahead_of_the_words(self):
        for words in ([], [256], [1] * 9, [0] * 12):
            with self.subTest(words=words):
                self.assertEqual(ask(chain(8, words)), [[-2]])

    def test_a_refused_chain_changes_none(self):
        fill = [chain(x, [x + 1]) for x in range(8)]
        show = [shows(x) for x in range(8)]
        refused = [chain(8, [9]), chain(0, []), chain(0, [256]), chain(7, [1] * 9)]
        self.assertEqual(ask(*fill, *refused, *show)[12:], [[1, x + 1] for x in range(8)])

    def test_each_chain_stands_by_itself(self):
        fill = [chain(x, [x + 1, 7 - x, 1]) for x in range(8)]
        show = [shows(x) for x in range(8)]
        self.assertEqual(ask(*fill, *show)[8:], [[3, x + 1, 7 - x, 1] for x in range(8)])


if __name__ == "__main__":
    unittest.main()
