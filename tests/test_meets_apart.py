import itertools
import random
import time
import unittest

from support import (
    GREATEST, apart, ask, ask_many, chain, least_gap, meets, met, met_pairs, shows, width,
)

MOST = 1000000


def met_places(a, s, b, t, n):
    """All pairs of turns in which the rows meet, the second row's turns looked up by their places."""
    turns_of = {b + k * t: k for k in range(n)}
    return [(j, turns_of[a + j * s]) for j in range(n) if a + j * s in turns_of]


class MeetsTest(unittest.TestCase):
    def test_nowhere(self):
        found = ask(meets(0, 2, 1, 2, 9), meets(0, 1, 9, 1, 9), meets(9, 1, 0, 1, 9), meets(0, 6, 1, 4, MOST))
        self.assertEqual(found, [[0]] * 4)

    def test_once(self):
        found = ask(meets(5, 1, 5, 1, 1), meets(0, 1, 8, 1, 9), meets(8, 1, 0, 1, 9), meets(0, 7, 30, 5, 6))
        self.assertEqual(found, [[1, 0, 0], [1, 8, 0], [1, 0, 8], [1, 5, 1]])

    def test_in_every_turn(self):
        found = ask(meets(7, 3, 7, 3, 5), meets(0, 1, 0, 1, MOST), meets(GREATEST, MOST, GREATEST, MOST, MOST))
        self.assertEqual(found, [[5, 0, 0], [MOST, 0, 0], [MOST, 0, 0]])

    def test_one_behind_the_other_both_ways_round(self):
        found = ask(meets(10, 2, 4, 2, 8), meets(4, 2, 10, 2, 8), meets(4, 1, 10, 3, 20), meets(10, 1, 4, 3, 20))
        self.assertEqual(found, [[5, 0, 3], [5, 3, 0], [5, 6, 0], [7, 0, 2]])

    def test_steps_with_a_common_divisor(self):
        # 0, 6, 12, ... and 4, 8, 12, ...: every other place of the first, every third of the second.
        self.assertEqual(ask(meets(0, 6, 4, 4, 12), meets(0, 6, 5, 4, 12), meets(0, 6, 3, 9, 12), meets(0, 6, 4, 9, 12)),
                         [[4, 2, 2], [0], [4, 2, 1], [0]])

    def test_places_do_not_wrap(self):
        found = ask(width(8), meets(255, 1, 0, 1, 5), meets(256, 1, 0, 1, 5))
        self.assertEqual(found[1:], [[0], [0]])
        found = ask(width(32), meets(GREATEST, 1, 0, 1, 5), meets(0, 1, GREATEST, 1, MOST), meets(GREATEST, 1, 0, MOST, MOST))
        self.assertEqual(found[1:3], [[0], [0]])
        # The next multiple of a million above 4294967295 is 4295000000.
        self.assertEqual(found[3], [1, 32705, 4295])

    def test_numbers_at_the_greatest(self):
        found = ask(
            meets(GREATEST, 1, GREATEST, MOST, MOST), meets(GREATEST, MOST, GREATEST, 1, MOST),
            meets(GREATEST, MOST, GREATEST - 1, MOST, MOST), meets(GREATEST, 999999, GREATEST - 1, MOST, MOST),
            meets(GREATEST - 1, 999999, GREATEST, MOST, MOST), meets(0, MOST, 4294000000, MOST, MOST),
        )
        self.assertEqual(found, [
            [1, 0, 0], [1, 0, 0], [0], [1, 1, 1], [1, 999999, 999998], [MOST - 4294, 4294, 0],
        ])

    def test_the_last_turns_count(self):
        # 0, 4, 8, ... and 7, 14, 21, ... meet in (7, 3) and in (14, 7).
        for n in range(1, 16):
            with self.subTest(n=n):
                expected = [0] if n < 8 else [1, 7, 3] if n < 15 else [2, 7, 3]
                self.assertEqual(ask(meets(0, 4, 7, 7, n), meets(7, 7, 0, 4, n)),
                                 [expected, [expected[0], 3, 7] if n >= 8 else [0]])

    def test_the_pair_with_the_least_j(self):
        self.assertEqual(ask(meets(0, 2, 6, 3, 10)), [[3, 3, 0]])
        self.assertEqual(ask(meets(6, 3, 0, 2, 10)), [[3, 0, 3]])
        self.assertEqual(met_pairs(0, 2, 6, 3, 10), [(3, 0), (6, 2), (9, 4)])

    def test_steps_and_lengths_that_are_not_let(self):
        for make in (meets, apart):
            for number in (0, MOST + 1, GREATEST):
                with self.subTest(make=make, number=number):
                    found = ask(make(1, number, 1, 1, 1), make(1, 1, 1, number, 1), make(1, 1, 1, 1, number),
                                make(1, number, 1, number, number))
                    self.assertEqual(found, [[-1]] * 4)

    def test_steps_and_lengths_that_are_just_let(self):
        for s, t, n in itertools.product((1, MOST), repeat=3):
            with self.subTest(s=s, t=t, n=n):
                found = ask(meets(5, s, 5, t, n), apart(5, s, 5, t, n))
                count = 1 if n == 1 or s != t else n
                self.assertEqual(found, [[count, 0, 0], [0]])

    def test_the_width_and_the_chains_do_not_matter_and_stay(self):
        for bits in (1, 8, 32):
            with self.subTest(bits=bits):
                fill = [width(bits), chain(0, [1, 0, 1])]
                found = ask(*fill, meets(1000, 2, 6, 3, 999), apart(1000, 2, 6, 3, 999), meets(0, 0, 0, 0, 0),
                            apart(0, 1, 1, 0, 0), apart(0, 2, 1, 2, 9), shows(0))
                self.assertEqual(found[2][0], len(met_places(1000, 2, 6, 3, 999)))
                self.assertEqual(found[4:], [[-1], [-1], [-6], [3, 1, 0, 1]])

    def test_small_ones_against_looking_at_all_pairs(self):
        asked = list(itertools.product(range(0, 9, 2), range(1, 6), range(0, 10, 3), range(1, 7), (1, 2, 5, 8)))
        found = ask_many(8, [call for numbers in asked for call in (meets(*numbers), apart(*numbers))])
        for place, numbers in enumerate(asked):
            self.assertEqual(found[2 * place], met(*numbers), numbers)
            self.assertEqual(found[2 * place + 1], least_gap(*numbers), numbers)

    def test_middle_ones_against_looking_at_all_pairs(self):
        source = random.Random(71)
        asked = [(source.randrange(200), source.randrange(1, 40), source.randrange(200), source.randrange(1, 40),
                  source.randrange(1, 40)) for case in range(3000)]
        found = ask_many(8, [call for numbers in asked for call in (meets(*numbers), apart(*numbers))])
        for place, numbers in enumerate(asked):
            self.assertEqual(found[2 * place], met(*numbers), numbers)
            self.assertEqual(found[2 * place + 1], least_gap(*numbers), numbers)

    def test_great_ones_against_looking_up_each_place(self):
        source = random.Random(72)
        for case in range(24):
            n = source.choice((100000, 99999, 65536))
            s = source.choice((source.randrange(1, 50), source.randrange(1, MOST + 1), MOST, 999999))
            t = source.choice((source.randrange(1, 50), source.randrange(1, MOST + 1), MOST, s))
            a = source.randrange(GREATEST + 1)
            b = min(max(0, a + source.randrange(-s * 50, s * 50)), GREATEST)
            pairs = met_places(a, s, b, t, n)
            gaps = [k - j for j, k in pairs if k >= j]
            found = ask(meets(a, s, b, t, n), apart(a, s, b, t, n))
            self.assertEqual(found[0], [len(pairs)] + list(pairs[0]) if pairs else [0], (a, s, b, t, n))
            self.assertEqual(found[1], [min(gaps)] if gaps else [-6], (a, s, b, t, n))

    def test_rows_of_a_million_places(self):
        for numbers in ((4000000000, 6, 3999999000, 4, MOST), (4294967295, 999999, 4294000000, 1, MOST),
                        (12, 35, 4294967, 21, MOST)):
            with self.subTest(numbers=numbers):
                pairs = met_places(*numbers)
                gaps = [k - j for j, k in pairs if k >= j]
                found = ask(meets(*numbers), apart(*numbers))
                self.assertEqual(found[0], [len(pairs)] + list(pairs[0]) if pairs else [0])
                self.assertEqual(found[1], [min(gaps)] if gaps else [-6])

    def test_in_short_time(self):
        source = random.Random(73)
        begun = time.perf_counter()
        for case in range(100):
            numbers = [(source.randrange(GREATEST), source.randrange(1, MOST), source.randrange(GREATEST),
                        source.randrange(1, MOST), MOST) for call in range(20)]
            ask(*[make(*row) for row in numbers for make in (meets, apart)])
        self.assertLess(time.perf_counter() - begun, 20)


class ApartTest(unittest.TestCase):
    def test_rows_that_meet_nowhere(self):
        self.assertEqual(ask(apart(0, 2, 1, 2, 9), apart(0, 1, 9, 1, 9)), [[-6], [-6]])

    def test_only_pairs_with_k_below_j(self):
        self.assertEqual(ask(apart(0, 1, 3, 1, 9), apart(0, 2, 6, 3, 10), apart(0, 1, 1, 2, MOST)), [[-6]] * 3)

    def test_k_is_j(self):
        self.assertEqual(ask(apart(4, 3, 4, 3, 9), apart(4, 3, 6, 2, 9), apart(5, 1, 5, 2, 9)), [[0], [0], [0]])

    def test_always_as_far_apart(self):
        self.assertEqual(ask(apart(3, 1, 0, 1, 9), apart(12, 4, 0, 4, 9), apart(GREATEST, 1, GREATEST - 8, 1, 9)),
                         [[3], [3], [8]])

    def test_the_least_is_not_at_the_least_j(self):
        # With each meeting j grows by 2 and k by 1: k - j is 9, 8, 7, ... down to 0, and below it.
        self.assertEqual(met_pairs(18, 1, 0, 2, 20)[:3], [(0, 9), (2, 10), (4, 11)])
        for numbers in ((18, 1, 0, 2, 20), (18, 1, 0, 2, 12), (10, 2, 1, 3, 15), (0, 3, 6, 2, 15), (0, 7, 13, 4, 40)):
            with self.subTest(numbers=numbers):
                gaps = [k - j for j, k in met_pairs(*numbers)]
                self.assertGreater(len(gaps), 1)
                self.assertNotEqual(gaps[0], min([gap for gap in gaps if gap >= 0]))
                self.assertEqual(ask(apart(*numbers)), [least_gap(*numbers)])

    def test_the_least_is_at_the_last_pair(self):
        self.assertEqual(met_pairs(18, 1, 0, 2, 12), [(0, 9), (2, 10), (4, 11)])
        self.assertEqual(ask(apart(18, 1, 0, 2, 12)), [[7]])
        self.assertEqual(met_pairs(0, 5, 40, 1, 11), [(8, 0), (9, 5), (10, 10)])
        self.assertEqual(ask(apart(0, 5, 40, 1, 11), apart(0, 5, 40, 1, 10)), [[0], [-6]])

    def test_it_never_comes_to_0_or_above_within_the_rows(self):
        # k - j grows by 2 with each meeting, from -5 on: -5, -3, -1, 1.
        self.assertEqual([k - j for j, k in met_pairs(0, 3, 15, 1, 9)], [-5, -3, -1])
        self.assertEqual(ask(apart(0, 3, 15, 1, 9), apart(0, 3, 15, 1, 10), apart(0, 3, 15, 1, 40)), [[-6], [1], [1]])

    def test_it_jumps_over_0_both_ways(self):
        self.assertEqual(ask(apart(0, 3, 15, 1, 99), apart(15, 1, 0, 3, 99)), [[1], [1]])
        self.assertEqual(least_gap(15, 1, 0, 3, 99), [1])

    def test_not_let_is_told_ahead_of_no_such_pair(self):
        self.assertEqual(ask(apart(0, 2, 1, 2, 0), apart(0, 0, 1, 2, 9), apart(0, 2, 1, MOST + 1, 9)), [[-1]] * 3)


if __name__ == "__main__":
    unittest.main()
