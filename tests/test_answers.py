import contextlib
import io
import sys
import unittest

from support import (
    GREATEST, after, ahead, apart, ask, at, chain, every, flat, lands, less, meets, period, plus, same, shows, sum_of, sums,
    times, turns, width,
)
from wrappingturns.chains import answers

MIXED = [
    width(16), chain(0, [1, 2, 3]), chain(1, [65535, 0, 0]), plus(2, 0, 1), less(3, 0, 1), at(2, 1000), sum_of(3, 5),
    shows(2), turns(0, 0, 7, 100), lands(0, 7, 3, 4), turns(9, 0, 0, 0), chain(8, [1]), chain(0, []), width(0), shows(0),
    times(4, 0, 0), ahead(5, 0, 10), every(6, 0, 2), sums(7, 0), sums(7, 8), period(0), same(0, 7), same(2, 2),
    times(4, 4, 4), after(0, 0, 0, 7, 100), after(0, 2, 1, 2, 4), after(8, 9, 0, 0, 65536), meets(0, 2, 6, 3, 10),
    meets(0, 2, 1, 2, 10), apart(6, 3, 0, 2, 10), apart(0, 2, 6, 3, 10), meets(0, 0, 0, 1, 1), shows(4),
]


class AnswersTest(unittest.TestCase):
    def test_one_call_of_each_number(self):
        for calls, expected in (
            ([0, 5], [1, 5]),
            ([1, 0, 0, 1, 3], [3, 1, 3, 3]),
            ([1, 4, 0, 1, 0], [1, 0]),
            ([2, 0, 2, 3, 4], [3, 1, 2, 4]),
            ([2, 0, 2, 3, 3], [1, 0]),
            ([3, 0, 3, 6, 7, 0], [3, 2, 6, 7]),
            ([4, 7], [2, 1, 0]),
            ([5, 0, 9], [1, 0]),
            ([6, 0, 9], [1, 0]),
            ([7, 0, 1, 2], [2, 1, 0]),
            ([8, 0, 1, 2], [2, 1, 0]),
            ([9, 0, 1, 2], [2, 1, 0]),
            ([10, 0, 1, 2], [2, 1, 0]),
            ([11, 0, 1, 2], [2, 1, 0]),
            ([12, 0, 1], [2, 1, 0]),
            ([13, 0], [1, 1]),
            ([14, 0, 1], [1, 1]),
            ([15, 0, 0, 0, 1, 3], [2, 1, 0]),
            ([15, 0, 4, 0, 1, 0], [1, 0]),
            ([16, 0, 2, 6, 3, 10], [3, 3, 3, 0]),
            ([16, 0, 2, 1, 2, 10], [1, 0]),
            ([17, 6, 3, 0, 2, 10], [1, 3]),
            ([4, 8], [1, -2]),
            ([17, 0, 2, 6, 3, 10], [1, -6]),
        ):
            with self.subTest(calls=calls):
                self.assertEqual(answers(calls), expected)

    def test_several_calls_on_one_object(self):
        # Chain 0's words are 1, 3, 8, 16, 27, ...; their squares 1, 9, 64, 256, 729 grow by 8, 55, 192, 473, and so on.
        self.assertEqual(ask(*MIXED), [
            [16], [3, 1, 2, 3], [1, 65535], [3, 0, 2, 3], [3, 2, 2, 3],
            [(2000 + 3 * 1000 * 999 // 2) % 65536], [10 + 2 * 10 + 3 * 10], [3, 0, 2, 3],
            [1, 15, 105], [1, 18725, 3],
            [-4], [-2], [-1], [-1], [3, 1, 2, 3],
            [5, 1, 8, 47, 90, 54], [3, 156, 32, 3], [3, 1, 7, 12], [4, 0, 1, 2, 3], [-2], [131072], [0], [1],
            [-5], [1, 346], [0], [-4], [3, 3, 0],
            [0], [3], [-6], [-1], [5, 1, 8, 47, 90, 54],
        ])

    def test_40_calls(self):
        calls = [chain(0, [1, 1])] + [plus(0, 0, 0)] * 8 + [chain(1, [k] * 12) for k in range(20)]
        calls = calls + [at(0, k) for k in range(11)]
        found = ask(*calls)
        self.assertEqual(len(found), 40)
        self.assertEqual(found[8], [1, 0])
        self.assertEqual(found[7], [2, 128, 128])
        self.assertEqual(found[9:29], [[-1]] * 20)
        self.assertEqual(found[29:], [[0]] * 11)

    def test_rows_of_12_and_none_are_read_past(self):
        self.assertEqual(ask(chain(0, [4] * 12), chain(0, []), chain(0, [4] * 3)), [[-1], [-1], [3, 4, 4, 4]])

    def test_what_is_handed_in_is_not_changed(self):
        calls = flat(MIXED)
        before = list(calls)
        answers(calls)
        self.assertEqual(calls, before)

    def test_the_same_list_twice_gives_the_same_answers(self):
        calls = flat(MIXED)
        self.assertEqual(answers(calls), answers(calls))

    def test_nothing_is_kept_from_one_time_to_the_next(self):
        answers(flat([width(32), chain(0, [GREATEST])]))
        self.assertEqual(ask(shows(0), chain(0, [256])), [[1, 0], [-1]])

    def test_each_time_another_list_is_given_back(self):
        first = answers([4, 0])
        first.append(99)
        self.assertEqual(answers([4, 0]), [2, 1, 0])

    def test_all_that_is_given_back_are_whole_numbers(self):
        given = answers(flat(MIXED))
        self.assertIs(type(given), list)
        self.assertEqual({type(number) for number in given}, {int})

    def test_nothing_is_printed_read_or_imported(self):
        out = io.StringIO()
        known = set(sys.modules)
        stdin = sys.stdin
        sys.stdin = None
        try:
            with contextlib.redirect_stdout(out), contextlib.redirect_stderr(out):
                answers(flat(MIXED))
        finally:
            sys.stdin = stdin
        self.assertEqual(out.getvalue(), "")
        self.assertEqual(set(sys.modules), known)


if __name__ == "__main__":
    unittest.main()
