import random
import time
import unittest

from support import GREATEST, ask, ask_many, holds, turned_loop, turns, width

SIZE_32 = 2 ** 32


def solved(a, s, target):
    """The least k with a + k s = target modulo 2^32 for an odd s: there is one alone."""
    return (target - a) * pow(s, -1, SIZE_32) % SIZE_32


class TurnsTest(unittest.TestCase):
    def test_each_relation_on_few_turns(self):
        expected = {
            0: [1, 3, 12], 1: [1, 4, 15], 2: [0], 3: [1, 0, 3], 4: [1, 0, 3],
            5: [1, 3, 12], 6: [1, 4, 15], 7: [1, 0, 3], 8: [1, 0, 3],
        }
        for r, answer in expected.items():
            with self.subTest(r=r):
                b = 12 if r != 2 else 4
                s = 3 if r != 2 else 2
                self.assertEqual(ask(turns(r, 3, s, b)), [answer])

    def test_the_same_word_ends_only_what_the_relation_says(self):
        for r, goes_on in enumerate((False, True, False, False, True, False, True, False, True)):
            with self.subTest(r=r):
                self.assertEqual(ask(turns(r, 7, 0, 7)), [[0] if goes_on else [1, 0, 7]])

    def test_with_signs_words_of_half_and_more_are_below_0(self):
        self.assertEqual(ask(turns(5, 128, 1, 0)), [[1, 128, 0]])
        self.assertEqual(ask(turns(0, 128, 1, 0)), [[1, 0, 128]])
        self.assertEqual(ask(turns(6, 127, 1, 126)), [[1, 0, 127]])
        self.assertEqual(ask(turns(7, 127, 1, 128)), [[1, 1, 128]])
        self.assertEqual(ask(turns(8, 5, 255, 251)), [[1, 11, 250]])

    def test_always_true_relations_turn_for_ever(self):
        for call in (turns(1, 3, 1, 255), turns(4, 3, 1, 0), turns(6, 3, 1, 127), turns(8, 3, 1, 128)):
            with self.subTest(call=call):
                self.assertEqual(ask(call), [[0]])

    def test_never_true_relations_do_not_turn(self):
        for call in (turns(0, 3, 1, 0), turns(3, 3, 1, 255), turns(5, 3, 1, 128), turns(7, 3, 1, 127)):
            with self.subTest(call=call):
                self.assertEqual(ask(call), [[1, 0, 3]])

    def test_steps_that_pass_over_the_end_for_ever(self):
        self.assertEqual(ask(turns(2, 1, 2, 4)), [[0]])
        self.assertEqual(ask(turns(0, 0, 64, 193)), [[0]])

    def test_steps_of_0(self):
        for r in range(9):
            for a, b in ((4, 9), (9, 4), (200, 9), (9, 200)):
                with self.subTest(r=r, a=a, b=b):
                    self.assertEqual(ask(turns(r, a, 0, b)), [[0] if holds(r, a, b, 256) else [1, 0, a]])

    def test_words_wrap(self):
        self.assertEqual(ask(turns(3, 250, 3, 10)), [[1, 2, 0]])
        self.assertEqual(ask(turns(4, 10, 255, 10)), [[1, 1, 9]])
        self.assertEqual(ask(turns(0, 0, 100, 250)), [[1, 23, 252]])

    def test_no_such_relation(self):
        for r in (9, 10, 255, 256, GREATEST):
            with self.subTest(r=r):
                self.assertEqual(ask(turns(r, 1, 2, 3)), [[-4]])
                self.assertEqual(ask(turns(r, 256, 2, 3)), [[-4]])
                self.assertEqual(ask(turns(r, GREATEST, GREATEST, GREATEST)), [[-4]])

    def test_a_number_that_is_no_word(self):
        for number in (256, 257, GREATEST):
            for r in range(9):
                with self.subTest(number=number, r=r):
                    found = ask(turns(r, number, 1, 1), turns(r, 1, number, 1), turns(r, 1, 1, number))
                    self.assertEqual(found, [[-1]] * 3)

    def test_small_widths_against_turning_one_by_one(self):
        for bits in range(1, 5):
            size = 2 ** bits
            asked = [(r, a, s, b) for r in range(9) for a in range(size) for s in range(size) for b in range(size)]
            found = ask_many(bits, [turns(*numbers) for numbers in asked])
            for numbers, answer in zip(asked, found):
                self.assertEqual(answer, turned_loop(*numbers, size), (bits, numbers))

    def test_middle_widths_against_turning_one_by_one(self):
        source = random.Random(1)
        for bits in (5, 6, 7, 8, 9, 11):
            size = 2 ** bits
            asked = [(source.randrange(9), source.randrange(size), source.randrange(size), source.randrange(size))
                     for case in range(1200)]
            found = ask_many(bits, [turns(*numbers) for numbers in asked])
            for numbers, answer in zip(asked, found):
                self.assertEqual(answer, turned_loop(*numbers, size), (bits, numbers))

    def test_thousands_of_millions_of_turns(self):
        found = ask(
            width(32),
            turns(2, 0, 1, GREATEST),
            turns(2, 1, 1, 0),
            turns(0, 0, 1, GREATEST),
            turns(3, GREATEST, GREATEST, 0),
            turns(2, 0, 3, 1),
            turns(5, 2 ** 31, 1, 2 ** 31 - 1),
            turns(2, 0, 2, GREATEST),
            turns(1, 0, 1, GREATEST),
        )
        self.assertEqual(found[1:], [
            [1, GREATEST, GREATEST], [1, GREATEST, 0], [1, GREATEST, GREATEST], [1, GREATEST, 0],
            [1, 2863311531, 1], [1, GREATEST, 2 ** 31 - 1], [0], [0],
        ])

    def test_32_bits_against_solving_for_each_ending_word(self):
        source = random.Random(2)
        for case in range(300):
            a = source.randrange(SIZE_32)
            s = source.randrange(1, SIZE_32, 2)
            ends = source.randrange(1, 20)
            b = SIZE_32 - ends
            k = min(solved(a, s, target) for target in range(b, SIZE_32))
            word = (a + k * s) % SIZE_32
            signed = [1, k, (word + 2 ** 31) % SIZE_32]
            found = ask(width(32), turns(0, a, s, b), turns(5, (a + 2 ** 31) % SIZE_32, s, b - 2 ** 31))
            self.assertEqual(found[1:], [[1, k, word], signed], (a, s, b))

    def test_32_bits_in_short_time(self):
        source = random.Random(3)
        begun = time.perf_counter()
        for case in range(100):
            steps = [source.randrange(SIZE_32) for call in range(38)] + [GREATEST]
            ask(width(32), *[turns(2, 1, s, source.randrange(SIZE_32)) for s in steps])
        self.assertLess(time.perf_counter() - begun, 20)


if __name__ == "__main__":
    unittest.main()
