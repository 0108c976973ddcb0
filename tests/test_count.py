"""Lists of calls of all kinds drawn up by a fixed rule, each held against the slow count of all pairs."""

import random
import unittest

from evenshare import desk
from tests.helper import (FARTHEST, LEAST, MOST, TOP, Counted, add, answers_to, beats, chance, even, flat, form,
                          given, great, less, mean, mix, quantile, times, weights)

PLACES = (0, 1, 2, 3, 14, 15)
FAR = (FARTHEST, -FARTHEST, FARTHEST + 1, -FARTHEST - 1, 2 ** 30, -2 ** 30)
HEAVY = (TOP, TOP - 1, TOP - 4, 2 ** 20, 65536)
# Every number that a call of each kind may be answered with first.
FIRST = {0: (0, -1, -2), 1: (0, -1, -2), 2: (0, -1, -2), 3: (0, -1, -2), 4: (0, -1, -2), 5: (0, -1, -2),
         6: (0, -1, -2), 7: (0, -1, -5), 8: (0, -1), 9: (0, -1, -2), 10: (0, -1, -2), 11: (0, -1), 12: (0, -1)}


class Draw:
    """Draws calls; reach is how far from 0 most values lie, most_pairs how many pairs weights has."""

    def __init__(self, seed, reach, most_pairs):
        self.source = random.Random(seed)
        self.reach = reach
        self.most_pairs = most_pairs

    def number(self, lo, hi):
        return self.source.randint(lo, hi)

    def one_of(self, *choices):
        return self.source.choice(choices)

    def seldom(self, often):
        return self.number(1, often) == 1

    def place(self):
        return self.number(16, 17) if self.seldom(30) else self.one_of(*PLACES)

    def value(self):
        return self.one_of(*FAR) if self.seldom(10 * self.most_pairs) else self.number(-self.reach, self.reach)

    def bound(self):
        return self.one_of(LEAST, MOST, *FAR) if self.seldom(4) else self.number(-self.reach, self.reach)

    def weights(self, h):
        count = self.number(0, self.most_pairs)
        if self.seldom(8):
            # Far and heavy ones that fit themselves, so that what is told of them may not.
            sign = self.one_of(1, -1)
            return weights(h, *[(sign * (FARTHEST - self.number(0, 9)), self.one_of(*HEAVY)) for k in range(count)])
        often = self.one_of(2, 100, 1000)
        return weights(h, *[(self.value(), self.one_of(*HEAVY) if self.seldom(often) else self.number(0, 4))
                            for k in range(count)])

    def even(self, h):
        lo = self.value()
        width = self.one_of(256, 257) if self.seldom(20) else self.number(0, self.reach)
        return even(h, lo, lo + width - 1)

    def ordered_bounds(self):
        lo, hi = self.bound(), self.bound()
        return (lo, hi) if self.seldom(6) else (min(lo, hi), max(lo, hi))

    def parts(self):
        if self.seldom(6):
            return self.one_of((0, 3), (5, 4), (0, 0), (TOP, 1), (TOP, TOP - 1))
        b = self.one_of(1, 2, 6, 36, 1000, TOP)
        return self.one_of(1, b, self.number(1, b)), b

    def call(self, kind):
        h, f, g = self.place(), self.place(), self.place()
        if kind == 0:
            return self.weights(h)
        if kind == 1:
            return self.even(h)
        if kind in (2, 3, 4):
            return (add, great, less)[kind - 2](h, f, g)
        if kind == 5:
            return times(h, f, self.one_of(0, 1, 2, 3, 101))
        if kind == 6:
            return mix(h, f, g, self.number(0, 6), self.one_of(1, 2, 3, 6, 0, 65535, 65536))
        if kind == 7:
            return given(h, f, *self.ordered_bounds())
        if kind == 8:
            return chance(f, *self.ordered_bounds())
        if kind == 11:
            return quantile(f, *self.parts())
        return {9: beats(f, g), 10: mean(f), 12: form(f)}[kind]


class AgainstTheCount(unittest.TestCase):
    def setUp(self):
        self.seen = {(kind, told): 0 for kind in FIRST for told in FIRST[kind]}

    def expected(self, calls):
        counted = Counted()
        answers = []
        for call in calls:
            answers.append(counted.answer(call))
            self.seen[(call[0], answers[-1][0])] += 1
        return answers

    def check(self, calls):
        for call, told, expected in zip(calls, answers_to(*calls), self.expected(calls), strict=True):
            self.assertEqual(told, expected, call)

    def check_all_seen(self):
        # The lists are of use only as long as every answer comes up in them.
        self.assertEqual([which for which in self.seen if self.seen[which] == 0], [])

    def test_what_is_kept_after_each_call(self):
        for seed in range(200):
            draw = Draw(seed, 6, 5)
            calls = []
            for k in range(42):
                calls.append(draw.call(draw.one_of(0, 0, 0, *range(13))))
                calls.extend(form(place) for place in PLACES)
            self.assertTrue(len(calls) <= 300)
            with self.subTest(seed=seed):
                self.check(calls)
        self.check_all_seen()

    def test_300_calls(self):
        for seed in range(40):
            draw = Draw(seed, 9, 8)
            with self.subTest(seed=seed):
                self.check([draw.call(draw.number(0, 12)) for k in range(300)])
        self.check_all_seen()

    def test_lists_of_almost_16000_numbers(self):
        for seed in range(3):
            draw = Draw(seed, 130, 256)
            calls = []
            while True:
                # Most numbers stand in weights; in turns with these, 300 calls have about 16000 of them.
                call = draw.call(0 if draw.seldom(5) else draw.number(1, 12))
                if len(calls) == 300 or len(flat(calls)) + len(call) > 16000:
                    break
                calls.append(call)
            self.assertTrue(len(flat(calls)) > 14000 and len(calls) > 200, (len(flat(calls)), len(calls)))
            with self.subTest(seed=seed):
                self.check(calls)

    def test_the_same_list_asked_again(self):
        for seed in range(20):
            draw = Draw(seed, 9, 8)
            calls = flat(draw.call(draw.number(0, 12)) for k in range(300))
            before = list(calls)
            first = desk.answers(calls)
            self.assertEqual(calls, before)
            self.assertEqual(desk.answers(calls), first)
            self.assertEqual(calls, before)


if __name__ == "__main__":
    unittest.main()
