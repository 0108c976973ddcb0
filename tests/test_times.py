"""Call 5, times, and promise 3."""

import unittest
from math import comb

from tests.helper import (DONE, FARTHEST, NO_FIT, TOP, WRONG, Counted, add, even, form_at,
                          kept_after, last_answer, times, weights)


class Times(unittest.TestCase):
    def test_none_is_0_for_sure(self):
        for f in (even(0, 5, 9), even(0, FARTHEST, FARTHEST), even(0, 0, 255)):
            self.assertEqual(last_answer(f, times(1, 0, 0)), DONE)
            self.assertEqual(form_at(1, f, times(1, 0, 0)), [(0, 1)])

    def test_once_is_itself(self):
        f = weights(0, (-3, 2), (FARTHEST, 5))
        self.assertEqual(form_at(1, f, times(1, 0, 1)), [(-3, 2), (FARTHEST, 5)])
        heavy = weights(0, (0, 1), (1, 1048575)), add(0, 0, 0)
        self.assertEqual(form_at(1, *heavy, times(1, 0, 1)), form_at(0, *heavy))

    def test_twice_is_the_sum_with_itself(self):
        f = weights(0, (-3, 2), (4, 5), (11, 1))
        self.assertEqual(form_at(1, f, times(1, 0, 2)), form_at(1, f, add(1, 0, 0)))

    def test_forty_coins(self):
        self.assertEqual(form_at(1, even(0, 0, 1), times(1, 0, 40)), [(k, comb(40, k)) for k in range(41)])

    def test_a_hundred_and_one_more(self):
        self.assertEqual(form_at(1, even(0, -7, -7), times(1, 0, 100)), [(-700, 1)])
        self.assertEqual(form_at(1, even(0, 0, 0), times(1, 0, 100)), [(0, 1)])
        for n in (101, 65536, 2147483648, TOP):
            self.assertEqual(last_answer(even(0, -7, -7), times(1, 0, n)), WRONG)

    def test_wrong_comes_before_no_fit(self):
        self.assertEqual(last_answer(even(0, 0, 255), times(1, 0, 100)), NO_FIT)
        self.assertEqual(last_answer(even(0, 0, 255), times(1, 0, 101)), WRONG)
        self.assertEqual(last_answer(even(0, 0, 255), times(16, 0, 100)), WRONG)
        self.assertEqual(last_answer(even(0, 0, 255), times(1, 1, 0)), WRONG)


class Fits(unittest.TestCase):
    """Promise 3: n times f is refused with -2 just if it doesn't fit itself."""

    def check_last_that_fits(self, f, last):
        self.assertEqual(last_answer(f, times(0, 0, last)), DONE)
        self.assertEqual(last_answer(f, times(0, 0, last + 1)), NO_FIT)
        self.assertEqual(last_answer(f, times(0, 0, 100)), NO_FIT)

    def test_a_whole_weight_of_2_to_the_40(self):
        self.check_last_that_fits(even(0, 0, 1), 40)
        self.check_last_that_fits(weights(0, (0, 1), (1, 3)), 20)
        self.check_last_that_fits(weights(0, (0, 1), (1, 1048575)), 2)
        self.check_last_that_fits(weights(0, (0, 1), (1, 1048576)), 1)

    def test_the_form_not_the_weights_told_counts(self):
        self.check_last_that_fits(weights(0, (0, TOP), (1, TOP)), 40)

    def test_256_values(self):
        self.check_last_that_fits(even(0, 0, 51), 5)
        self.check_last_that_fits(even(0, 0, 85), 3)
        self.assertEqual(len(form_at(0, even(0, 0, 51), times(0, 0, 5))), 256)
        # 257 values.
        self.assertEqual(last_answer(even(0, 0, 64), times(0, 0, 4)), NO_FIT)
        self.assertEqual(last_answer(even(0, 0, 63), times(0, 0, 4)), DONE)

    def test_the_farthest_values(self):
        self.assertEqual(form_at(0, even(0, 21474836, 21474836), times(0, 0, 100)), [(2147483600, 1)])
        self.assertEqual(last_answer(even(0, 21474837, 21474837), times(0, 0, 100)), NO_FIT)
        self.assertEqual(last_answer(even(0, -21474836, -21474836), times(0, 0, 100)), DONE)
        self.assertEqual(last_answer(even(0, -21474837, -21474837), times(0, 0, 100)), NO_FIT)
        self.check_last_that_fits(even(0, FARTHEST, FARTHEST), 1)
        self.check_last_that_fits(even(0, -FARTHEST, -FARTHEST), 1)
        # 2147483647 is a prime; 306783378 times 7 is one short of it, and one more is beyond.
        self.check_last_that_fits(weights(0, (306783378, 1), (-306783378, 1)), 7)

    def test_every_n_against_the_count_of_all_pairs(self):
        for f in (even(0, 0, 1), weights(0, (-5, 1), (0, 1), (7, 3)), weights(0, (0, 6), (2, 4)),
                  weights(0, (100000000, 1), (-3, 2)), even(0, -1, 1), even(0, 30000000, 30000000)):
            for n in (0, 1, 2, 3, 5, 8, 13, 20, 21, 22, 25, 26, 40, 41, 71, 72, 100):
                counted = Counted()
                counted.answer(f)
                self.assertEqual(last_answer(f, times(1, 0, n)), counted.answer(times(1, 0, n)))
                self.assertEqual(kept_after(f, times(1, 0, n)), counted.kept)


if __name__ == "__main__":
    unittest.main()
