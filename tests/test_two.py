"""Calls 2, 3, 4 and 6: add, great, less and mix."""

import unittest

from tests.helper import (DONE, FARTHEST, NO_FIT, TOP, WRONG, add, even, form_at, great,
                          last_answer, less, mix, weights)

DIE = even(0, 1, 6)
COIN = weights(1, (0, 1), (1, 3))
# The whole weights 257 and 4278255361 are factors of 2^40 + 1.
FACTOR = weights(0, (0, 1), (1, 256))
OTHER_FACTOR = weights(1, (0, 1), (1, 4278255360))
# Whole weight 2^20.
HALF_WAY = weights(0, (0, 1), (1, 1048575))


class Add(unittest.TestCase):
    def test_two_dice(self):
        self.assertEqual(form_at(2, DIE, add(2, 0, 0)),
                         [(2, 1), (3, 2), (4, 3), (5, 4), (6, 5), (7, 6), (8, 5), (9, 4), (10, 3), (11, 2), (12, 1)])

    def test_weights_are_multiplied(self):
        calls = weights(0, (-5, 2), (10, 3)), weights(1, (0, 1), (15, 4))
        self.assertEqual(form_at(2, *calls, add(2, 0, 1)), [(-5, 2), (10, 11), (25, 12)])

    def test_one_distribution_with_itself_is_two_independent_ones(self):
        self.assertEqual(form_at(1, COIN, add(1, 1, 1)), [(0, 1), (1, 6), (2, 9)])

    def test_256_values_and_257(self):
        self.assertEqual(last_answer(even(0, 0, 127), even(1, 0, 128), add(2, 0, 1)), DONE)
        self.assertEqual(last_answer(even(0, 0, 128), even(1, 0, 128), add(2, 0, 1)), NO_FIT)
        sparse = weights(1, *[(1000 * k, 1) for k in range(16)])
        self.assertEqual(last_answer(even(0, 0, 15), sparse, add(2, 0, 1)), DONE)
        self.assertEqual(last_answer(even(0, 0, 16), sparse, add(2, 0, 1)), NO_FIT)
        self.assertEqual(last_answer(even(0, 0, 255), even(1, 7, 7), add(2, 0, 1)), DONE)
        self.assertEqual(last_answer(even(0, 0, 255), even(1, 7, 8), add(2, 1, 0)), NO_FIT)

    def test_the_farthest_values_and_one_beyond(self):
        for sign in (1, -1):
            far = weights(0, (sign * 2147483640, 1), (0, 1))
            self.assertEqual(last_answer(far, weights(1, (sign * 7, 1)), add(2, 0, 1)), DONE)
            self.assertEqual(last_answer(far, weights(1, (sign * 8, 1)), add(2, 0, 1)), NO_FIT)
        self.assertEqual(form_at(2, even(0, -FARTHEST, -FARTHEST), even(1, FARTHEST, FARTHEST), add(2, 0, 1)), [(0, 1)])

    def test_a_whole_weight_of_2_to_the_40_and_one_above(self):
        self.assertEqual(last_answer(HALF_WAY, add(2, 0, 0)), DONE)
        self.assertEqual(last_answer(FACTOR, OTHER_FACTOR, add(2, 0, 1)), NO_FIT)
        one_less = weights(1, (0, 1), (1, 4278255359))
        self.assertEqual(last_answer(FACTOR, one_less, add(2, 0, 1)), DONE)


class GreatAndLess(unittest.TestCase):
    def test_two_dice(self):
        self.assertEqual(form_at(2, DIE, great(2, 0, 0)), [(1, 1), (2, 3), (3, 5), (4, 7), (5, 9), (6, 11)])
        self.assertEqual(form_at(2, DIE, less(2, 0, 0)), [(1, 11), (2, 9), (3, 7), (4, 5), (5, 3), (6, 1)])

    def test_values_of_one_only(self):
        calls = weights(0, (-4, 2), (3, 5)), weights(1, (0, 1), (10, 1))
        self.assertEqual(form_at(2, *calls, great(2, 0, 1)), [(0, 2), (3, 5), (10, 7)])
        self.assertEqual(form_at(2, *calls, less(2, 0, 1)), [(-4, 4), (0, 5), (3, 5)])

    def test_a_value_that_never_comes_out_is_not_kept(self):
        calls = weights(0, (1, 1), (5, 1)), weights(1, (3, 1))
        self.assertEqual(form_at(2, *calls, great(2, 0, 1)), [(3, 1), (5, 1)])
        self.assertEqual(form_at(2, *calls, less(2, 0, 1)), [(1, 1), (3, 1)])

    def test_a_common_divisor_is_taken_out(self):
        calls = weights(0, (1, 3), (2, 4)), weights(1, (5, 1), (6, 1))
        self.assertEqual(form_at(2, *calls, great(2, 0, 1)), [(5, 1), (6, 1)])
        self.assertEqual(form_at(2, *calls, less(2, 0, 1)), [(1, 3), (2, 4)])

    def test_fits_in_its_lowest_form_alone(self):
        heavy = HALF_WAY, add(0, 0, 0)
        self.assertEqual(form_at(2, *heavy, even(1, 5, 6), great(2, 0, 1)), [(5, 1), (6, 1)])
        self.assertEqual(form_at(2, *heavy, even(1, -6, -5), less(2, 0, 1)), [(-6, 1), (-5, 1)])
        self.assertEqual(form_at(2, *heavy, even(1, 2, 3), great(2, 0, 1)), [(2, 1), (3, 1)])
        # Here some of the weights are odd, so the whole weight stays 2^41.
        self.assertEqual(last_answer(*heavy, even(1, 1, 2), great(2, 0, 1)), NO_FIT)
        self.assertEqual(last_answer(*heavy, even(1, 1, 2), less(2, 0, 1)), NO_FIT)

    def test_a_whole_weight_of_2_to_the_40_and_one_above(self):
        for call in (great(2, 0, 1), less(2, 0, 1)):
            self.assertEqual(last_answer(HALF_WAY, weights(1, (0, 1), (1, 1048575)), call), DONE)
            self.assertEqual(last_answer(FACTOR, OTHER_FACTOR, call), NO_FIT)
            self.assertEqual(last_answer(FACTOR, weights(1, (0, 1), (1, 4278255359)), call), DONE)

    def test_256_values_and_257(self):
        some = weights(0, *[(2 * k, 1) for k in range(128)])
        fitting = weights(1, *[(2 * k + 1, 1) for k in range(-1, 127)])
        # The least of all, -1, is never the greater; the greatest of all, 254, never the lesser.
        self.assertEqual(last_answer(some, fitting, great(2, 0, 1)), DONE)
        self.assertEqual(len(form_at(2, some, fitting, great(2, 0, 1))), 255)
        one_more = weights(1, *[(2 * k + 1, 1) for k in range(-1, 128)])
        self.assertEqual(len(form_at(2, some, one_more, great(2, 0, 1))), 256)
        self.assertEqual(len(form_at(2, some, one_more, less(2, 0, 1))), 256)
        two_more = weights(1, *[(2 * k + 1, 1) for k in range(-1, 129)])
        self.assertEqual(last_answer(some, two_more, great(2, 0, 1)), NO_FIT)
        two_more = weights(1, *[(2 * k + 1, 1) for k in range(-2, 128)])
        self.assertEqual(last_answer(some, two_more, less(2, 0, 1)), NO_FIT)

    def test_512_values_of_which_few_come_out(self):
        calls = even(0, 0, 255), even(1, 1000, 1255)
        self.assertEqual(form_at(2, *calls, great(2, 0, 1)), [(value, 1) for value in range(1000, 1256)])
        self.assertEqual(form_at(2, *calls, less(2, 0, 1)), [(value, 1) for value in range(256)])


class Order(unittest.TestCase):
    """Promise 1: sums, the greater and the lesser don't hang on the order of the two."""

    def test_either_order_is_the_same(self):
        pairs = (
            (DIE, COIN),
            (weights(0, (-9, 5), (4, 2), (7, 8)), weights(1, (-10, 1), (4, 9))),
            (even(0, 0, 255), even(1, 3, 4)),
            (even(0, 0, 255), even(1, 5, 5)),
            (FACTOR, OTHER_FACTOR),
            (even(0, FARTHEST, FARTHEST), even(1, -1, 0)),
        )
        for call in (add, great, less):
            for f, g in pairs:
                self.assertEqual(last_answer(f, g, call(2, 0, 1)), last_answer(f, g, call(2, 1, 0)))
                # Place 2 holds DIE's values if both are refused.
                before = even(2, 1, 6)
                self.assertEqual(form_at(2, before, f, g, call(2, 0, 1)), form_at(2, before, f, g, call(2, 1, 0)))


class Mix(unittest.TestCase):
    def test_shares_by_a_and_b(self):
        calls = even(0, 1, 2), even(1, 2, 4)
        # 2/5 of halves and 3/5 of thirds: 1/5, 1/5 + 1/5, 1/5, 1/5.
        self.assertEqual(form_at(2, *calls, mix(2, 0, 1, 2, 3)), [(1, 1), (2, 2), (3, 1), (4, 1)])
        self.assertEqual(form_at(2, *calls, mix(2, 1, 0, 3, 2)), [(1, 1), (2, 2), (3, 1), (4, 1)])
        self.assertEqual(form_at(2, *calls, mix(2, 0, 1, 1, 1)), [(1, 3), (2, 5), (3, 2), (4, 2)])

    def test_whole_weights_do_not_sway_the_chance(self):
        calls = weights(0, (0, 1)), weights(1, (1, 999), (2, 1))
        self.assertEqual(form_at(2, *calls, mix(2, 0, 1, 1, 1)), [(0, 1000), (1, 999), (2, 1)])

    def test_a_and_b_with_a_common_divisor(self):
        self.assertEqual(form_at(2, even(0, 0, 0), even(1, 1, 1), mix(2, 0, 1, 40, 60)), [(0, 2), (1, 3)])

    def test_a_and_b_at_their_ends(self):
        calls = even(0, 0, 0), even(1, 1, 1)
        self.assertEqual(form_at(2, *calls, mix(2, 0, 1, 1, 65535)), [(0, 1), (1, 65535)])
        self.assertEqual(form_at(2, *calls, mix(2, 0, 1, 65535, 1)), [(0, 65535), (1, 1)])
        self.assertEqual(form_at(2, *calls, mix(2, 0, 1, 65535, 65535)), [(0, 1), (1, 1)])
        for a, b in ((0, 1), (1, 0), (0, 0), (65536, 1), (1, 65536), (TOP, 1), (1, TOP), (0, 65536)):
            self.assertEqual(last_answer(*calls, mix(2, 0, 1, a, b)), WRONG)

    def test_with_itself_it_stays_what_it_is(self):
        heavy = HALF_WAY, add(0, 0, 0)
        self.assertEqual(last_answer(*heavy, mix(2, 0, 0, 65535, 65534)), DONE)
        self.assertEqual(form_at(2, *heavy, mix(2, 0, 0, 65535, 65534)), form_at(0, *heavy))

    def test_a_whole_weight_of_2_to_the_40_and_one_above(self):
        g = even(1, 9, 9)
        self.assertEqual(last_answer(weights(0, (0, 1), (1, 33554431)), g, mix(2, 0, 1, 1, 32767)), DONE)
        self.assertEqual(last_answer(FACTOR, weights(1, (9, 1), (10, 1)), mix(2, 0, 1, 1, 1)), DONE)
        # One above: a share of 1 in 2^40 + 1 is 1 / 257 of 1 / 4278255361.
        self.assertEqual(last_answer(OTHER_FACTOR, even(0, 9, 9), mix(2, 1, 0, 1, 256)), NO_FIT)
        self.assertEqual(last_answer(weights(1, (0, 1), (1, 4278255359)), even(0, 9, 9), mix(2, 1, 0, 1, 256)), DONE)

    def test_256_values_and_257(self):
        self.assertEqual(last_answer(even(0, 0, 127), even(1, 128, 255), mix(2, 0, 1, 1, 1)), DONE)
        self.assertEqual(last_answer(even(0, 0, 127), even(1, 128, 256), mix(2, 0, 1, 1, 1)), NO_FIT)
        self.assertEqual(last_answer(even(0, 0, 255), even(1, 0, 255), mix(2, 0, 1, 3, 4)), DONE)

    def test_wrong_comes_before_no_fit(self):
        calls = even(0, 0, 255), even(1, 300, 555)
        self.assertEqual(last_answer(*calls, mix(2, 0, 1, 1, 1)), NO_FIT)
        self.assertEqual(last_answer(*calls, mix(2, 0, 1, 0, 1)), WRONG)
        self.assertEqual(last_answer(*calls, mix(2, 0, 1, 1, 65536)), WRONG)


if __name__ == "__main__":
    unittest.main()
