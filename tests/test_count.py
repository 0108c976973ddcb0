"""Lists of calls drawn up by a fixed rule, each held against the slow count of all pairs."""

import random
import unittest

from evenshare import desk
from tests.helper import (FARTHEST, Counted, add, answers_to, even, great, less, mix, times, weights)

PLACES = (0, 1, 2, 3, 14, 15)


class Draw:
    def __init__(self, seed):
        self.source = random.Random(seed)

    def number(self, lo, hi):
        return self.source.randint(lo, hi)

    def place(self):
        if self.number(0, 30) == 0:
            return self.number(16, 17)
        return self.source.choice(PLACES)

    def value(self):
        if self.number(0, 25) == 0:
            return self.source.choice((FARTHEST, -FARTHEST, FARTHEST + 1, -FARTHEST - 1, 2 ** 30, -2 ** 30))
        return self.number(-6, 6)

    def weight(self):
        if self.number(0, 10) == 0:
            return self.source.choice((4294967295, 2 ** 20, 65536))
        return self.number(0, 4)

    def call(self):
        kind = self.number(0, 9)
        h, f, g = self.place(), self.place(), self.place()
        if kind < 2:
            return weights(h, *[(self.value(), self.weight()) for k in range(self.number(0, 5))])
        if kind == 2:
            lo = self.value()
            return even(h, lo, lo + self.number(-1, 4))
        if kind == 5:
            return times(h, f, self.source.choice((0, 1, 2, 3, 4, 5, 101)))
        if kind == 6:
            return mix(h, f, g, self.number(0, 6), self.source.choice((1, 2, 3, 6, 0, 65535, 65536)))
        return {3: add, 4: great, 7: less, 8: great, 9: less}[kind](h, f, g)


class AgainstTheCount(unittest.TestCase):
    def test_lists_of_calls(self):
        seen = {(kind, told): 0 for kind in range(7) for told in (0, -1, -2)}
        for seed in range(120):
            draw = Draw(seed)
            calls = [draw.call() for k in range(40)]
            counted = Counted()
            kept = {}
            expected = []
            for call in calls:
                answer = counted.answer(call)
                expected.append(answer)
                seen[(call[0], answer[0])] += 1
                self.assertEqual(desk.answer_to(kept, call), answer, (seed, call))
                self.assertEqual({place: list(kept[place].items()) for place in kept}, counted.forms(), (seed, call))
            self.assertEqual(answers_to(*calls), expected, seed)
        # The lists are of use only as long as every answer comes up in them.
        for kind, told in seen:
            self.assertTrue(seen[(kind, told)] > 0, (kind, told))


if __name__ == "__main__":
    unittest.main()
