"""Calls 0 and 1: weights and even."""

import unittest

from tests.helper import (DONE, FARTHEST, LEAST, MOST, NO_FIT, TOP, WRONG,
                          even, form_at, kept_after, last_answer, weights)


class Weights(unittest.TestCase):
    def test_values_get_their_weights_rising(self):
        call = weights(0, (5, 2), (-3, 1), (9, 4))
        self.assertEqual(last_answer(call), DONE)
        self.assertEqual(form_at(0, call), [(-3, 1), (5, 2), (9, 4)])

    def test_a_value_that_stands_more_than_once_gets_the_sum(self):
        call = weights(0, (5, 2), (1, 3), (5, 4), (5, 1), (1, 0))
        self.assertEqual(form_at(0, call), [(1, 3), (5, 7)])

    def test_a_common_divisor_is_taken_out(self):
        self.assertEqual(form_at(0, weights(0, (1, 12), (2, 18), (3, 30))), [(1, 2), (2, 3), (3, 5)])
        self.assertEqual(form_at(0, weights(0, (7, TOP))), [(7, 1)])
        self.assertEqual(form_at(0, weights(0, (7, TOP), (8, TOP - 1))), [(7, TOP), (8, TOP - 1)])

    def test_the_divisor_is_sought_when_the_same_values_are_summed(self):
        self.assertEqual(form_at(0, weights(0, (1, 1), (2, 4), (1, 3))), [(1, 1), (2, 1)])

    def test_weight_0_is_not_kept(self):
        self.assertEqual(form_at(0, weights(0, (1, 0), (2, 6), (3, 0), (4, 3))), [(2, 2), (4, 1)])

    def test_no_pair_and_all_weights_0_are_wrong(self):
        self.assertEqual(last_answer(weights(0)), WRONG)
        self.assertEqual(last_answer(weights(0, (1, 0))), WRONG)
        self.assertEqual(last_answer(weights(0, (1, 0), (2, 0), (1, 0))), WRONG)
        self.assertEqual(last_answer(weights(0, (MOST, 0), (LEAST, 0))), WRONG)
        self.assertEqual(kept_after(weights(0)), {})

    def test_256_pairs_and_257(self):
        pairs = [(value, value + 1) for value in range(256)]
        self.assertEqual(last_answer(weights(0, *pairs)), DONE)
        self.assertEqual(form_at(0, weights(0, *pairs)), pairs)
        self.assertEqual(last_answer(weights(0, *pairs, (256, 1))), WRONG)
        self.assertEqual(last_answer(weights(0, *[(value, 1) for value in range(300)])), WRONG)

    def test_pairs_are_counted_not_values(self):
        self.assertEqual(last_answer(weights(0, *[(3, 1)] * 256)), DONE)
        self.assertEqual(last_answer(weights(0, *[(3, 1)] * 257)), WRONG)
        self.assertEqual(last_answer(weights(0, (3, 1), *[(4, 0)] * 256)), WRONG)

    def test_all_weights_as_great_as_they_may_be_fit(self):
        pairs = [(value, TOP) for value in range(255)] + [(255, TOP - 1)]
        self.assertEqual(last_answer(weights(0, *pairs)), DONE)
        self.assertEqual(form_at(0, weights(0, *pairs)), pairs)

    def test_the_farthest_values_and_one_beyond(self):
        call = weights(0, (FARTHEST, 1), (-FARTHEST, 2))
        self.assertEqual(last_answer(call), DONE)
        self.assertEqual(form_at(0, call), [(-FARTHEST, 2), (FARTHEST, 1)])
        for value in (FARTHEST + 1, -FARTHEST - 1, MOST, LEAST):
            self.assertEqual(last_answer(weights(0, (0, 1), (value, 1))), NO_FIT)
            self.assertEqual(last_answer(weights(0, (value, 1))), NO_FIT)

    def test_weight_0_beyond_the_range_does_not_matter(self):
        for value in (FARTHEST + 1, -FARTHEST - 1, MOST, LEAST):
            call = weights(0, (value, 0), (3, 2), (4, 1))
            self.assertEqual(last_answer(call), DONE)
            self.assertEqual(form_at(0, call), [(3, 2), (4, 1)])

    def test_wrong_comes_before_no_fit(self):
        beyond = [(FARTHEST + 1 + value, 1) for value in range(257)]
        self.assertEqual(last_answer(weights(0, *beyond)), WRONG)
        self.assertEqual(last_answer(weights(16, (MOST, 1))), WRONG)
        self.assertEqual(last_answer(weights(15, (MOST, 1))), NO_FIT)


class Even(unittest.TestCase):
    def test_each_value_has_weight_1(self):
        self.assertEqual(last_answer(even(0, -2, 2)), DONE)
        self.assertEqual(form_at(0, even(0, -2, 2)), [(-2, 1), (-1, 1), (0, 1), (1, 1), (2, 1)])

    def test_lo_equal_to_hi(self):
        self.assertEqual(form_at(0, even(0, -7, -7)), [(-7, 1)])

    def test_hi_below_lo_is_wrong(self):
        self.assertEqual(last_answer(even(0, 1, 0)), WRONG)
        self.assertEqual(last_answer(even(0, MOST, LEAST)), WRONG)
        self.assertEqual(last_answer(even(0, MOST, MOST - 1)), WRONG)

    def test_256_values_and_257(self):
        self.assertEqual(last_answer(even(0, -100, 155)), DONE)
        self.assertEqual(form_at(0, even(0, -100, 155)), [(value, 1) for value in range(-100, 156)])
        self.assertEqual(last_answer(even(0, -100, 156)), NO_FIT)

    def test_as_far_apart_as_can_be(self):
        self.assertEqual(last_answer(even(0, LEAST, MOST)), NO_FIT)
        self.assertEqual(last_answer(even(0, -FARTHEST, FARTHEST)), NO_FIT)
        self.assertEqual(last_answer(even(16, LEAST, MOST)), WRONG)

    def test_the_farthest_values_and_one_beyond(self):
        self.assertEqual(last_answer(even(0, FARTHEST - 255, FARTHEST)), DONE)
        self.assertEqual(last_answer(even(0, FARTHEST - 254, FARTHEST + 1)), NO_FIT)
        self.assertEqual(last_answer(even(0, -FARTHEST, -FARTHEST + 255)), DONE)
        self.assertEqual(last_answer(even(0, -FARTHEST - 1, -FARTHEST + 254)), NO_FIT)
        self.assertEqual(last_answer(even(0, FARTHEST + 1, FARTHEST + 1)), NO_FIT)
        self.assertEqual(last_answer(even(0, MOST, MOST)), NO_FIT)
        self.assertEqual(last_answer(even(0, LEAST, LEAST)), NO_FIT)


if __name__ == "__main__":
    unittest.main()
