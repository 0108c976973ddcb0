"""Calls 11 and 12: quantile and form."""

import unittest

from tests.helper import (FARTHEST, TOP, WRONG, add, answers_to, even, form, given, great, kept_after, last_answer,
                          less, mix, quantile, times, weights)

DIE = even(0, 1, 6)
F = weights(0, (-5, 2), (0, 1), (9, 7))


class Quantile(unittest.TestCase):
    def check(self, f, a, b, value):
        self.assertEqual(last_answer(f, quantile(0, a, b)), [0, value])

    def test_the_least_value_that_reaches_the_share(self):
        for a in range(1, 7):
            self.check(DIE, a, 6, a)
        for a, value in ((1, -5), (2, -5), (3, 0), (4, 9), (9, 9), (10, 9)):
            self.check(F, a, 10, value)
        self.check(DIE, 1, 2, 3)
        self.check(even(0, 1, 5), 1, 2, 3)
        self.check(even(0, 1, 4), 1, 2, 2)

    def test_a_share_just_above_and_just_below(self):
        self.check(DIE, 500000, 1000000, 3)
        self.check(DIE, 500001, 1000000, 4)
        self.check(DIE, 499999, 1000000, 3)
        # 1 / 3 is no decimal fraction: just below, at, and just above.
        self.check(DIE, 1431655764, TOP, 2)
        self.check(DIE, 1431655765, TOP, 2)
        self.check(DIE, 1431655766, TOP, 3)

    def test_a_is_b(self):
        for b in (1, 2, 6, 65536, TOP):
            self.check(DIE, b, b, 6)
            self.check(even(0, -4, -4), b, b, -4)
            self.check(weights(0, (1, TOP), (2, 1)), b, b, 2)

    def test_a_is_1(self):
        for b in (6, 7, 100, TOP):
            self.check(DIE, 1, b, 1)
        self.check(DIE, 1, 5, 2)
        self.check(DIE, 1, 1, 6)

    def test_b_as_great_as_it_may_be(self):
        # The whole weight is TOP.
        f = weights(0, (0, 1), (1, TOP - 2), (2, 1))
        self.check(f, 1, TOP, 0)
        self.check(f, 2, TOP, 1)
        self.check(f, TOP - 1, TOP, 1)
        self.check(f, TOP, TOP, 2)
        # A whole weight one greater: 1 of 2^32 is just too little.
        g = weights(0, (0, 1), (1, TOP - 1), (2, 1))
        self.check(g, 1, TOP, 1)
        self.check(g, TOP - 1, TOP, 1)
        self.check(g, TOP, TOP, 2)

    def test_compared_exactly_with_a_whole_weight_of_2_to_the_40(self):
        heavy = weights(0, (0, 1), (1, 1048575)), add(0, 0, 0)
        # The share of 0 is 1 of 2^40, that up to 1 is 2^21 - 1 of 2^40.
        for a, b, value in ((1, TOP, 1), (2097151, TOP, 2), (2048, TOP, 1), (1, 524288, 2), (1, 524289, 1), (1, 1, 2)):
            self.assertEqual(last_answer(*heavy, quantile(0, a, b)), [0, value])

    def test_values_of_weight_0_are_none(self):
        self.check(weights(0, (1, 0), (2, 1), (3, 0), (4, 1), (5, 0)), 1, TOP, 2)
        self.check(weights(0, (1, 0), (2, 1), (3, 0), (4, 1), (5, 0)), 1, 2, 2)
        self.check(weights(0, (1, 0), (2, 1), (3, 0), (4, 1), (5, 0)), 3, 4, 4)
        self.check(weights(0, (1, 0), (2, 1), (3, 0), (4, 1), (5, 0)), 1, 1, 4)

    def test_values_told_in_any_order_and_far_out(self):
        f = weights(0, (FARTHEST, 1), (0, 1), (-FARTHEST, 2))
        for a, value in ((1, -FARTHEST), (2, -FARTHEST), (3, 0), (4, FARTHEST)):
            self.check(f, a, 4, value)

    def test_of_256_values(self):
        for a in (1, 2, 100, 255, 256):
            self.check(even(0, -100, 155), a, 256, a - 101)

    def test_a_0_or_above_b_is_wrong(self):
        for a, b in ((0, 1), (0, 0), (2, 1), (1, 0), (TOP, 0), (TOP, TOP - 1), (0, TOP), (7, 6)):
            self.assertEqual(last_answer(DIE, quantile(0, a, b)), WRONG)

    def test_nothing_kept_is_wrong(self):
        for place in (1, 15, 16, TOP):
            for a, b in ((1, 2), (0, 1), (2, 1)):
                self.assertEqual(last_answer(DIE, quantile(place, a, b)), WRONG)
        self.assertEqual(last_answer(quantile(0, 1, 1)), WRONG)

    def test_changes_nothing(self):
        asked = quantile(0, 1, 2), quantile(0, 2, 1), quantile(1, 1, 1)
        self.assertEqual(kept_after(F, *asked), kept_after(F))


class Form(unittest.TestCase):
    def check(self, calls, row):
        self.assertEqual(last_answer(*calls, form(0)), [0] + row)

    def test_after_each_call(self):
        self.check([weights(0, (5, 4), (-3, 2), (9, 8), (7, 0), (5, 2))], [-3, 1, 5, 3, 9, 4])
        self.check([even(0, -1, 1)], [-1, 1, 0, 1, 1, 1])
        two = weights(1, (3, 1), (1, 3)), weights(2, (2, 6), (1, 2))
        # Both have the whole weight 4: 1 is 3 of 4 and 1 of 4.
        self.check([*two, add(0, 1, 2)], [2, 3, 3, 9, 4, 1, 5, 3])
        self.check([*two, great(0, 1, 2)], [1, 3, 2, 9, 3, 4])
        self.check([*two, less(0, 1, 2)], [1, 13, 2, 3])
        self.check([*two, times(0, 1, 3)], [3, 27, 5, 27, 7, 9, 9, 1])
        self.check([*two, times(0, 1, 0)], [0, 1])
        self.check([*two, mix(0, 1, 2, 2, 4)], [1, 5, 2, 6, 3, 1])
        self.check([*two, add(0, 1, 2), given(0, 0, 2, 3)], [2, 1, 3, 3])

    def test_rising_whatever_the_order_told(self):
        self.check([weights(0, (0, 1), (-1, 2), (FARTHEST, 3), (-FARTHEST, 4), (10, 5), (9, 6))],
                   [-FARTHEST, 4, -1, 2, 0, 1, 9, 6, 10, 5, FARTHEST, 3])
        two = weights(1, (9, 1), (-9, 2)), weights(2, (4, 1), (-20, 1), (30, 1))
        for call in (add(0, 1, 2), great(0, 1, 2), less(0, 1, 2), mix(0, 2, 1, 1, 1), times(0, 2, 2),
                     given(0, 2, -20, 9)):
            values = last_answer(*two, call, form(0))[1::2]
            self.assertEqual(values, sorted(values))
            self.assertTrue(len(values) >= 2)

    def test_of_256_values(self):
        pairs = [(3 * k - 300, TOP - k) for k in range(256)]
        calls = [weights(0, *reversed(pairs))]
        self.check(calls, [number for pair in pairs for number in pair])
        self.assertEqual(len(last_answer(*calls, form(0))), 513)
        self.check([even(0, 0, 255)], [number for k in range(256) for number in (k, 1)])

    def test_weights_above_2_to_the_32(self):
        self.check([weights(0, (0, 1), (1, 1048575)), add(0, 0, 0)], [0, 1, 1, 2097150, 2, 1099509530625])

    def test_nothing_kept_is_wrong(self):
        self.assertEqual(answers_to(*[form(place) for place in range(16)]), [WRONG] * 16)
        for place in (1, 15, 16, 17, 65536, TOP):
            self.assertEqual(last_answer(DIE, form(place)), WRONG)

    def test_after_refused_calls(self):
        refused = (weights(0), even(0, 0, 256), add(0, 0, 1), great(0, 1, 0), less(0, 16, 0), times(0, 0, 101),
                   mix(0, 0, 0, 0, 1), given(0, 0, 4, 3), given(0, 0, 50, 60))
        self.check([F, *refused], [-5, 2, 0, 1, 9, 7])
        self.assertEqual(last_answer(*refused, form(0)), WRONG)

    def test_asking_twice_gives_the_same(self):
        told = answers_to(F, form(0), form(0), add(1, 0, 0), form(0))
        self.assertEqual([told[1], told[2], told[4]], [[0, -5, 2, 0, 1, 9, 7]] * 3)


if __name__ == "__main__":
    unittest.main()
