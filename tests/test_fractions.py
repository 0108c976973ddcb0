"""Calls 8, 9 and 10: chance, beats and mean, and promise 1 of what they tell."""

import unittest
from fractions import Fraction

from tests.helper import (FARTHEST, LEAST, MOST, NO_FIT, TOP, WRONG, add, answers_to, beats, chance, even, form_at,
                          given, great, kept_after, last_answer, mean, mix, times, told_fraction, weights)

DIE = even(0, 1, 6)
# Whole weight 2^40 with 3 values: 1, 2 (2^20 - 1) and (2^20 - 1)^2.
HEAVY = weights(0, (0, 1), (1, 1048575)), add(0, 0, 0)
# The greatest whole weight that 256 pairs can tell is a little below 2^40; this one leaves room for a few more pairs.
NEAR = 2 ** 40 - 2 ** 35
SOME = (
    even(0, 1, 6), even(0, -3, -3), even(0, 0, 0), weights(0, (-5, 2), (0, 1), (9, 7)),
    weights(0, (-FARTHEST, 3), (FARTHEST, 2)), weights(0, (2, 1), (3, 1000), (8, 17)), even(0, -100, 155),
)


def weights_of_whole(h, last, whole, *pairs):
    """Place h with pairs, and as much weight at last as makes the whole weight whole."""
    left = whole - sum(weight for value, weight in pairs)
    parts = [(last, TOP)] * (left // TOP) + [(last, left % TOP)]
    return weights(h, *pairs, *parts)


class Chance(unittest.TestCase):
    def test_in_lowest_terms(self):
        for lo, hi, told in ((1, 1, [0, 1, 6]), (1, 2, [0, 1, 3]), (2, 4, [0, 1, 2]), (3, 6, [0, 2, 3]),
                             (2, 6, [0, 5, 6]), (5, 90, [0, 1, 3]), (-90, 4, [0, 2, 3])):
            self.assertEqual(last_answer(DIE, chance(0, lo, hi)), told)

    def test_weights_count(self):
        f = weights(0, (-5, 2), (0, 1), (9, 7))
        for lo, hi, told in ((-5, -5, [0, 1, 5]), (0, 0, [0, 1, 10]), (9, 9, [0, 7, 10]), (-5, 0, [0, 3, 10]),
                             (0, 9, [0, 4, 5]), (-4, 8, [0, 1, 10]), (-6, 10, [0, 1, 1])):
            self.assertEqual(last_answer(f, chance(0, lo, hi)), told)

    def test_nothing_lies_there(self):
        for lo, hi in ((7, 7), (0, 0), (7, MOST), (LEAST, 0), (LEAST, LEAST), (MOST, MOST)):
            self.assertEqual(last_answer(DIE, chance(0, lo, hi)), [0, 0, 1])
        self.assertEqual(last_answer(weights(0, (1, 1), (5, 1)), chance(0, 2, 4)), [0, 0, 1])

    def test_hi_below_lo(self):
        for lo, hi in ((2, 1), (6, 1), (4, 3), (MOST, LEAST), (7, 6), (1, 0), (MOST, MOST - 1)):
            self.assertEqual(last_answer(DIE, chance(0, lo, hi)), [0, 0, 1])

    def test_all_lies_there(self):
        for lo, hi in ((1, 6), (0, 7), (LEAST, MOST), (LEAST, 6), (1, MOST), (-FARTHEST, FARTHEST)):
            self.assertEqual(last_answer(DIE, chance(0, lo, hi)), [0, 1, 1])
        far = weights(0, (-FARTHEST, 1), (FARTHEST, 2))
        self.assertEqual(last_answer(far, chance(0, LEAST, MOST)), [0, 1, 1])
        self.assertEqual(last_answer(far, chance(0, -FARTHEST, FARTHEST)), [0, 1, 1])
        self.assertEqual(last_answer(far, chance(0, 1 - FARTHEST, FARTHEST)), [0, 2, 3])
        self.assertEqual(last_answer(far, chance(0, -FARTHEST, FARTHEST - 1)), [0, 1, 3])

    def test_a_whole_weight_of_2_to_the_40(self):
        self.assertEqual(last_answer(*HEAVY, chance(0, 0, 0)), [0, 1, 2 ** 40])
        self.assertEqual(last_answer(*HEAVY, chance(0, 1, 1)), [0, 1048575, 2 ** 39])
        self.assertEqual(last_answer(*HEAVY, chance(0, 1, 2)), [0, 2 ** 40 - 1, 2 ** 40])
        self.assertEqual(last_answer(*HEAVY, chance(0, 0, 2)), [0, 1, 1])

    def test_nothing_kept_is_wrong(self):
        for place in (1, 15, 16, TOP):
            for lo, hi in ((1, 6), (7, 7), (2, 1), (LEAST, MOST)):
                self.assertEqual(last_answer(DIE, chance(place, lo, hi)), WRONG)
        self.assertEqual(last_answer(chance(0, 1, 1)), WRONG)


class Beats(unittest.TestCase):
    def test_pairs_in_which_f_is_greater(self):
        self.assertEqual(last_answer(DIE, even(1, 1, 4), beats(0, 1)), [0, 7, 12])
        self.assertEqual(last_answer(DIE, even(1, 1, 4), beats(1, 0)), [0, 1, 4])
        f, g = weights(0, (1, 3), (5, 1)), weights(1, (0, 1), (1, 2), (4, 4))
        # 1 beats 0: 3 times 1; 5 beats all 7; of 28.
        self.assertEqual(last_answer(f, g, beats(0, 1)), [0, 5, 14])
        # 4 beats 1: 4 times 3.
        self.assertEqual(last_answer(f, g, beats(1, 0)), [0, 3, 7])

    def test_alike_is_not_greater(self):
        self.assertEqual(last_answer(even(0, 5, 5), even(1, 5, 5), beats(0, 1)), [0, 0, 1])
        self.assertEqual(last_answer(even(0, 5, 5), even(1, 4, 4), beats(0, 1)), [0, 1, 1])
        self.assertEqual(last_answer(even(0, 5, 5), even(1, 6, 6), beats(0, 1)), [0, 0, 1])

    def test_f_and_g_may_be_one(self):
        self.assertEqual(last_answer(DIE, beats(0, 0)), [0, 5, 12])
        self.assertEqual(last_answer(even(0, 7, 7), beats(0, 0)), [0, 0, 1])
        self.assertEqual(last_answer(weights(0, (-1, 1), (1, 3)), beats(0, 0)), [0, 3, 16])

    def test_always_and_never(self):
        calls = even(0, 0, 255), even(1, 256, 511)
        self.assertEqual(answers_to(*calls, beats(0, 1), beats(1, 0))[2:], [[0, 0, 1], [0, 1, 1]])
        far = even(0, FARTHEST, FARTHEST), even(1, -FARTHEST, -FARTHEST)
        self.assertEqual(answers_to(*far, beats(0, 1), beats(1, 0))[2:], [[0, 1, 1], [0, 0, 1]])

    def test_a_denominator_of_2_to_the_63_and_one_less(self):
        # f is 1 and g 0 in just one of the pairs, so the denominator is the product of the whole weights.
        for whole_f, whole_g, told in (
            (2 ** 31, 2 ** 32, NO_FIT), (2 ** 24, 2 ** 39, NO_FIT), (2 ** 39, 2 ** 24, NO_FIT),
            (2 ** 30, 2 ** 32, [0, 1, 2 ** 62]), (2 ** 31, 2 ** 32 - 1, [0, 1, 2 ** 63 - 2 ** 31]),
            (2 ** 31, 2 ** 32 + 1, NO_FIT),
            # The factors of 2^63 - 1.
            (153092023, 60247241209, [0, 1, 2 ** 63 - 1]), (60247241209, 153092023, [0, 1, 2 ** 63 - 1]),
            (NEAR, NEAR, NO_FIT), (NEAR - 1, NEAR, NO_FIT), (NEAR, 2 ** 22, [0, 1, NEAR * 2 ** 22]),
        ):
            f = weights_of_whole(0, 0, whole_f, (1, 1))
            g = weights_of_whole(1, 9, whole_g, (0, 1))
            self.assertEqual(answers_to(f, g, beats(0, 1)), [[0], [0], told])

    def test_with_a_whole_weight_of_2_to_the_40(self):
        for whole, told in ((2 ** 22, [0, 1, 2 ** 62]), (2 ** 23, NO_FIT), (2 ** 23 - 1, [0, 1, 2 ** 63 - 2 ** 40])):
            self.assertEqual(last_answer(*HEAVY, weights_of_whole(1, -1, whole, (1, 1)), beats(1, 0)), told)
        # An odd number of 2^80 pairs.
        self.assertEqual(last_answer(*HEAVY, beats(0, 0)), NO_FIT)

    def test_the_denominator_counts_whatever_the_share(self):
        seldom = weights_of_whole(0, 0, NEAR, (1, 1)), weights_of_whole(1, 0, NEAR, (-1, 1))
        self.assertEqual(answers_to(*seldom, beats(0, 1), beats(1, 0))[2:], [NO_FIT, [0, 0, 1]])
        often = weights_of_whole(0, 1, NEAR, (0, 1)), weights_of_whole(1, 0, NEAR, (1, 1))
        self.assertEqual(answers_to(*often, beats(0, 1), beats(1, 0))[2:], [NO_FIT, NO_FIT])

    def test_heavy_ones_whose_fraction_is_small_in_lowest_terms(self):
        always = weights_of_whole(0, 0, NEAR, (1, 1)), weights_of_whole(1, 9, NEAR, (8, 1))
        self.assertEqual(answers_to(*always, beats(0, 1), beats(1, 0))[2:], [[0, 0, 1], [0, 1, 1]])
        thirds = weights_of_whole(0, 0, NEAR, (1, 1)), weights(1, (-1, 1), (7, 2))
        self.assertEqual(answers_to(*thirds, beats(0, 1), beats(1, 0))[2:], [[0, 1, 3], [0, 2, 3]])
        # g has the whole weight 2^40, half of it below all of f's and half above.
        f, above = weights_of_whole(0, 0, NEAR, (1, 1)), weights_of_whole(1, 5, 2 ** 39, (6, 1))
        halves = f, above, even(2, -1, -1), mix(1, 1, 2, 1, 1)
        self.assertEqual(form_at(1, *halves), [(-1, 2 ** 39), (5, 2 ** 39 - 1), (6, 1)])
        self.assertEqual(answers_to(*halves, beats(0, 1), beats(1, 0))[4:], [[0, 1, 2], [0, 1, 2]])

    def test_wrong_comes_before_no_fit(self):
        heavy = weights_of_whole(0, 0, NEAR, (1, 1)), weights_of_whole(1, 0, NEAR, (-1, 1))
        self.assertEqual(last_answer(*heavy, beats(0, 1)), NO_FIT)
        for f, g in ((0, 2), (2, 0), (0, 16), (16, 0), (2, 3), (TOP, 1), (1, TOP), (TOP, TOP), (15, 15)):
            self.assertEqual(last_answer(*heavy, beats(f, g)), WRONG)
        self.assertEqual(last_answer(beats(0, 0)), WRONG)


class Mean(unittest.TestCase):
    def test_a_fraction_in_lowest_terms(self):
        for f, told in ((DIE, [0, 7, 2]), (even(0, 4, 6), [0, 5, 1]), (weights(0, (1, 2), (10, 1)), [0, 4, 1]),
                        (weights(0, (0, 3), (5, 1)), [0, 5, 4]), (weights(0, (0, 4), (6, 2), (9, 3)), [0, 13, 3])):
            self.assertEqual(last_answer(f, mean(0)), told)

    def test_below_0(self):
        for f, told in ((even(0, -6, -1), [0, -7, 2]), (even(0, -3, -3), [0, -3, 1]),
                        (weights(0, (-10, 1), (1, 2)), [0, -8, 3]), (weights(0, (-9, 2), (3, 2)), [0, -3, 1]),
                        (weights(0, (-1, 1), (0, 5)), [0, -1, 6])):
            self.assertEqual(last_answer(f, mean(0)), told)

    def test_0_is_0_1(self):
        far = weights(0, (-FARTHEST, 9), (FARTHEST, 9))
        for f in (even(0, 0, 0), even(0, -4, 4), weights(0, (-6, 1), (2, 3)), far):
            self.assertEqual(last_answer(f, mean(0)), [0, 0, 1])

    def test_the_farthest_for_sure(self):
        for value in (FARTHEST, -FARTHEST):
            self.assertEqual(last_answer(even(0, value, value), mean(0)), [0, value, 1])

    def test_a_numerator_of_2_to_the_63_and_one_less(self):
        for sign in (1, -1):
            far = sign * FARTHEST
            # 2147483647 times (2^32 + 2) is 2 less than 2^63.
            at_edge = weights_of_whole(0, far, 2 ** 32 + 3, (sign * 2, 1))
            self.assertEqual(last_answer(at_edge, mean(0)), NO_FIT)
            below = weights_of_whole(0, far, 2 ** 32 + 5, (sign * 2 ** 29, 4))
            self.assertEqual(last_answer(below, mean(0)), [0, sign * (2 ** 63 - 1), 2 ** 32 + 5])
            # One more than that is 2^63 again, but here the whole weight is even.
            even_whole = weights_of_whole(0, far, 2 ** 32 + 6, (sign * 2 ** 29, 4), (sign, 1))
            self.assertEqual(last_answer(even_whole, mean(0)), [0, sign * 2 ** 62, 2 ** 31 + 3])

    def test_whole_weights_near_2_to_the_40(self):
        for sign in (1, -1):
            far, middle, near = sign * FARTHEST, sign * (FARTHEST - 1), sign * (FARTHEST - 2)
            self.assertEqual(last_answer(weights_of_whole(0, far, NEAR, (middle, 1)), mean(0)), NO_FIT)
            # The same weight on both sides of the middle.
            about = weights_of_whole(0, middle, NEAR, (far, TOP), (near, TOP))
            self.assertEqual(last_answer(about, mean(0)), [0, middle, 1])
        self.assertEqual(last_answer(weights_of_whole(0, 0, NEAR, (1, 1)), mean(0)), [0, 1, NEAR])
        self.assertEqual(last_answer(weights_of_whole(0, 0, NEAR, (-1, 1)), mean(0)), [0, -1, NEAR])
        self.assertEqual(last_answer(weights_of_whole(0, FARTHEST, NEAR, (-FARTHEST, TOP)), mean(0)), NO_FIT)

    def test_a_whole_weight_of_2_to_the_40(self):
        for sign in (1, -1):
            half = weights(0, (sign * 2 ** 29, 1), (sign * (2 ** 30 - 1), 1048575))
            twice = 2 * told_fraction(half, mean(0))
            self.assertEqual(told_fraction(half, add(0, 0, 0), mean(0)), twice)
            self.assertEqual(twice, Fraction(sign * (2 ** 29 + (2 ** 30 - 1) * 1048575), 2 ** 19))
        # Half of 2^40 at the farthest, the other half but 1 one nearer.
        upper = weights_of_whole(0, FARTHEST - 1, 2 ** 39, (FARTHEST - 2, 1))
        odd = upper, even(1, FARTHEST, FARTHEST), mix(0, 0, 1, 1, 1)
        self.assertEqual(last_answer(*odd, mean(0)), NO_FIT)

    def test_nothing_kept_is_wrong(self):
        heavy = weights_of_whole(0, FARTHEST, NEAR, (FARTHEST - 1, 1))
        self.assertEqual(last_answer(heavy, mean(0)), NO_FIT)
        for place in (1, 15, 16, TOP):
            self.assertEqual(last_answer(heavy, mean(place)), WRONG)
        self.assertEqual(last_answer(mean(0)), WRONG)


class OfTwo(unittest.TestCase):
    """Promise 1, so far as fractions tell it."""

    def test_the_mean_of_a_sum_is_the_sum_of_the_means(self):
        for f in SOME:
            for g in SOME:
                calls = f, [g[0], 1] + g[2:], add(2, 0, 1)
                if answers_to(*calls)[-1] == [0]:
                    sum_of_means = told_fraction(*calls, mean(0)) + told_fraction(*calls, mean(1))
                    self.assertEqual(told_fraction(*calls, mean(2)), sum_of_means)
        calls = even(0, -2, 3), times(1, 0, 12)
        self.assertEqual(told_fraction(*calls, mean(1)), 12 * told_fraction(*calls, mean(0)))

    def test_one_beats_the_other_or_they_are_alike(self):
        for f in SOME:
            for g in SOME:
                calls = f, [g[0], 1] + g[2:]
                alike = 0
                for value, weight in form_at(0, *calls):
                    of_f = told_fraction(*calls, chance(0, value, value))
                    alike += of_f * told_fraction(*calls, chance(1, value, value))
                self.assertEqual(told_fraction(*calls, beats(0, 1)) + told_fraction(*calls, beats(1, 0)) + alike, 1)

    def test_chances_tell_what_given_keeps(self):
        f = weights(0, (-5, 2), (0, 1), (9, 7), (12, 3))
        calls = f, given(1, 0, -2, 11)
        for value in (-5, 0, 9, 12):
            both = told_fraction(*calls, chance(0, max(value, -2), min(value, 11)))
            self.assertEqual(told_fraction(*calls, chance(1, value, value)),
                             both / told_fraction(*calls, chance(0, -2, 11)))

    def test_the_greater_beats_what_both_beat(self):
        calls = DIE, great(1, 0, 0), even(2, 4, 4)
        self.assertEqual(told_fraction(*calls, beats(1, 2)), 1 - (1 - told_fraction(*calls, beats(0, 2))) ** 2)

    def test_what_only_answers_changes_nothing(self):
        calls = *HEAVY, weights_of_whole(1, 0, NEAR, (-1, 1)), weights_of_whole(2, FARTHEST, NEAR, (FARTHEST - 1, 1))
        before = kept_after(*calls)
        asked = chance(0, 1, 2), beats(0, 1), mean(0), chance(3, 1, 1), beats(0, 3), mean(3), beats(0, 0), mean(2)
        self.assertEqual(answers_to(*calls, *asked)[-2:], [NO_FIT, NO_FIT])
        self.assertEqual(kept_after(*calls, *asked), before)


if __name__ == "__main__":
    unittest.main()
