"""Call 7: given."""

import unittest

from tests.helper import (DONE, FARTHEST, LEAST, MOST, NONE_THERE, TOP, WRONG, add, answers_to, even, form_at, given,
                          kept_after, last_answer, less, times, weights)

F = weights(0, (-7, 4), (-1, 6), (3, 10), (20, 15))
FORM = [(-7, 4), (-1, 6), (3, 10), (20, 15)]


class Given(unittest.TestCase):
    def check(self, lo, hi, expected):
        self.assertEqual(last_answer(F, given(1, 0, lo, hi)), DONE)
        self.assertEqual(kept_after(F, given(1, 0, lo, hi)), {0: FORM, 1: expected})

    def test_only_the_values_from_lo_to_hi_in_the_lowest_form(self):
        self.check(-7, 3, [(-7, 2), (-1, 3), (3, 5)])
        self.check(-1, 20, FORM[1:])
        self.check(-1, 3, [(-1, 3), (3, 5)])
        self.check(3, 20, [(3, 2), (20, 3)])
        self.check(-5, 10, [(-1, 3), (3, 5)])

    def test_lo_and_hi_count_and_one_beyond_does_not(self):
        self.check(-7, 20, FORM)
        self.check(-6, 20, FORM[1:])
        self.check(-7, 19, [(-7, 2), (-1, 3), (3, 5)])
        self.check(-8, 21, FORM)

    def test_one_value_is_left_for_sure(self):
        for lo, hi, value in ((-7, -7, -7), (3, 3, 3), (20, 20, 20), (LEAST, -2, -7), (4, MOST, 20), (-1, 2, -1)):
            self.check(lo, hi, [(value, 1)])

    def test_all_of_it_stays_as_it_is(self):
        self.check(LEAST, MOST, FORM)
        self.check(-FARTHEST, FARTHEST, FORM)
        # Whole weight 2^40.
        heavy = weights(0, (0, 1), (1, 1048575)), add(0, 0, 0)
        self.assertEqual(form_at(1, *heavy, given(1, 0, LEAST, MOST)), form_at(0, *heavy))
        wide = even(0, -FARTHEST, -FARTHEST + 255)
        self.assertEqual(form_at(1, wide, given(1, 0, LEAST, MOST)), form_at(0, wide))

    def test_none_there(self):
        for lo, hi in ((21, MOST), (LEAST, -8), (-6, -2), (0, 2), (4, 19), (10, 10), (MOST, MOST), (LEAST, LEAST)):
            self.assertEqual(last_answer(F, given(1, 0, lo, hi)), NONE_THERE)
            self.assertEqual(kept_after(F, given(1, 0, lo, hi)), {0: FORM})

    def test_none_there_if_hi_is_below_lo(self):
        for lo, hi in ((3, 2), (20, -7), (4, 3), (MOST, LEAST), (MOST, MOST - 1), (3, -1)):
            self.assertEqual(last_answer(F, given(1, 0, lo, hi)), NONE_THERE)
            self.assertEqual(kept_after(F, given(1, 0, lo, hi)), {0: FORM})

    def test_a_value_told_with_weight_0_is_none(self):
        self.assertEqual(last_answer(weights(0, (1, 0), (2, 5)), given(1, 0, 1, 1)), NONE_THERE)
        # The lesser of the two is never 9.
        calls = even(0, 0, 9), even(1, 1, 8), less(2, 0, 1)
        self.assertEqual(last_answer(*calls, given(2, 2, 9, 9)), NONE_THERE)

    def test_wrong_comes_before_none_there(self):
        for h, f in ((16, 0), (TOP, 0), (1, 16), (1, TOP), (1, 1), (1, 15), (16, 16), (16, 1)):
            for lo, hi in ((-7, 3), (4, 19), (3, 2)):
                self.assertEqual(last_answer(F, given(h, f, lo, hi)), WRONG)
                self.assertEqual(kept_after(F, given(h, f, lo, hi)), {0: FORM})

    def test_h_may_be_f(self):
        self.assertEqual(kept_after(F, given(0, 0, -1, 3)), {0: [(-1, 3), (3, 5)]})
        self.assertEqual(kept_after(F, given(0, 0, 4, 5)), {0: FORM})

    def test_a_refused_call_leaves_what_stood_at_h(self):
        other = even(1, 5, 6)
        for call in (given(1, 0, 4, 5), given(1, 0, 3, 2), given(1, 2, 3, 3), given(1, 16, 3, 3)):
            self.assertEqual(kept_after(F, other, call), {0: FORM, 1: [(5, 1), (6, 1)]})

    def test_the_other_places_do_not_follow(self):
        calls = F, given(1, 0, -1, 3), even(0, 9, 9)
        self.assertEqual(kept_after(*calls), {0: [(9, 1)], 1: [(-1, 3), (3, 5)]})

    def test_what_is_made_is_used_by_later_calls(self):
        # Two dice known to show 11 or more.
        calls = even(0, 1, 6), add(0, 0, 0), given(0, 0, 11, 12)
        self.assertEqual(form_at(0, *calls), [(11, 2), (12, 1)])
        # Were the weights kept as they are in f, 2 times would not fit.
        part = weights(0, (0, TOP - 1), (1, TOP - 1), (2, 1)), given(0, 0, 0, 1)
        self.assertEqual(answers_to(*part, times(1, 0, 40), times(1, 0, 41)), [[0], [0], [0], [-2]])


if __name__ == "__main__":
    unittest.main()
