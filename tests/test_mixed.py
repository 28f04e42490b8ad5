"""Lists of calls of all kinds, held against turning one by one."""

import random
import unittest

from model import Model
from support import GREATEST, ask, chain, flat, shows, width
from wrappingturns.chains import answers

SHOWS_ALL = [shows(x) for x in range(8)]


class Maker:
    """Makes calls at random: mostly such as are let, and now and then each kind of wrong one."""

    def __init__(self, seed):
        self.source = random.Random(seed)
        self.bits = 8

    def place(self):
        return self.source.choice((8, 9, GREATEST)) if self.source.random() < 0.04 else self.source.randrange(8)

    def word(self):
        if self.source.random() < 0.02:
            return self.source.choice((2 ** self.bits, GREATEST))
        size = 2 ** self.bits
        return self.source.choice((0, 1 % size, size - 1, size // 2, self.source.randrange(size)))

    def count(self):
        return self.source.choice((0, 1, 2, 3, GREATEST, 2 ** 31, self.source.randrange(40)))

    def relation(self):
        return 9 if self.source.random() < 0.05 else self.source.randrange(9)

    def row_number(self):
        return self.source.choice((0, 1000001, GREATEST)) if self.source.random() < 0.05 else self.source.randrange(1, 15)

    def begin(self):
        if self.source.random() < 0.3:
            return self.source.choice((0, 33, GREATEST))
        self.bits = self.source.randrange(1, 6)
        return self.bits

    def words(self):
        length = self.source.choice((0, 9, 12)) if self.source.random() < 0.08 else self.source.randrange(1, 9)
        return [self.word() for place in range(length)]

    def call(self):
        number = self.source.choice((0, 1, 2, 3, 3, 3, 4, 5, 6, 7, 8, 9, 9, 10, 11, 12, 13, 14, 15, 16, 17))
        if number == 0:
            # Chains fill slowly, so they are cleared seldom.
            return [0, self.begin()] if self.source.random() < 0.4 else [4, self.place()]
        if number == 3:
            return chain(self.place(), self.words())
        kinds = {
            1: "rwww", 2: "wwww", 4: "p", 5: "pk", 6: "pk", 7: "ppp", 8: "ppp", 9: "ppp", 10: "ppk", 11: "ppk", 12: "pp",
            13: "p", 14: "pp", 15: "prwww", 16: "aoaoo", 17: "aoaoo",
        }[number]
        make = {
            "r": self.relation, "w": self.word, "p": self.place, "k": self.count, "o": self.row_number,
            "a": lambda: self.source.randrange(40) + self.source.choice((0, 0, 0, 4294967200)),
        }
        return [number] + [make[kind]() for kind in kinds]


class MixedTest(unittest.TestCase):
    def test_lists_of_up_to_40_calls_against_the_model(self):
        seen = {}
        for seed in range(250):
            maker = Maker(seed)
            maker.bits = maker.source.randrange(1, 6)
            calls = [width(maker.bits)] + [maker.call() for call in range(maker.source.randrange(32))] + SHOWS_ALL
            model = Model()
            expected = [model.answer(call) for call in calls]
            found = ask(*calls)
            for call, one, other in zip(calls, found, expected):
                self.assertEqual(one, other, (seed, call, calls))
                seen[(call[0], min(one[0], 0))] = True
        refusals = {0: (-1,), 1: (-4, -1), 2: (-1,), 3: (-2, -1), 4: (-2,), 5: (-2,), 6: (-2,), 7: (-2,), 8: (-2,),
                    9: (-2, -5), 10: (-2,), 11: (-2,), 12: (-2, -5), 13: (-2,), 14: (-2,), 15: (-4, -2, -1),
                    16: (-1,), 17: (-1, -6)}
        wanted = {(number, answer) for number, ways in refusals.items() for answer in (0,) + ways}
        self.assertEqual(set(seen), wanted)

    def test_no_refusal_changes_anything(self):
        fill = [chain(x, [x + 1, 2 * x, 3, 0, 5, 6, 7, 8]) for x in range(8)]
        refused = [
            [0, 0], [0, 33], [1, 9, 0, 0, 0], [1, 0, 256, 0, 0], [2, 0, 0, 5, 4], [3, 8, 1, 1], [3, 0, 0], [3, 0, 1, 256],
            [4, 8], [5, 8, 0], [6, 8, 0], [7, 0, 1, 8], [8, 0, 8, 1], [9, 0, 1, 2], [9, 0, 8, 1], [10, 0, 8, 1],
            [11, 0, 8, 1], [12, 0, 1], [12, 8, 1], [13, 8], [14, 0, 8], [15, 0, 9, 0, 0, 0], [15, 8, 0, 0, 0, 0],
            [15, 0, 0, 256, 0, 0], [16, 0, 0, 0, 1, 1], [17, 0, 1, 0, 1, 0], [17, 0, 2, 1, 2, 9],
        ]
        before = ask(*fill, *SHOWS_ALL)[8:]
        for begin in range(0, len(refused), 9):
            part = refused[begin:begin + 9]
            found = ask(*fill, *part, *SHOWS_ALL, [3, 0, 1, 255], [3, 0, 1, 256])
            self.assertTrue(all(len(answer) == 1 and answer[0] < 0 for answer in found[8:8 + len(part)]), found)
            self.assertEqual(found[8 + len(part):], before + [[1, 255], [-1]])

    def test_a_width_between_makes_all_chains_0_alone(self):
        fill = [chain(x, [1, 0, 1]) for x in range(8)]
        for n in (1, 8, 32):
            with self.subTest(n=n):
                found = ask(*fill, [9, 0, 1, 2], [12, 3, 3], width(n), *SHOWS_ALL, [13, 0], [14, 0, 5])
                self.assertEqual(found[10:], [[n]] + [[1, 0]] * 8 + [[1], [1]])

    def test_the_list_is_the_same_afterwards_and_twice_gives_the_same_answers(self):
        for seed in range(40):
            maker = Maker(1000 + seed)
            calls = flat([maker.call() for call in range(40)])
            before = list(calls)
            first = answers(calls)
            self.assertEqual(calls, before)
            self.assertEqual(answers(calls), first)
            self.assertEqual(calls, before)


if __name__ == "__main__":
    unittest.main()
