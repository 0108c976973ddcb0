"""The 16 places, what a refusal is and leaves, and promise 2."""

import unittest
from math import gcd

from tests.helper import (DONE, FARTHEST, NONE_THERE, NO_FIT, TOP, WRONG, add, answers_to, beats, chance, even, form,
                          form_at, given, great, kept_after, last_answer, less, mean, mix, quantile, times, weights)

BEYOND = (16, 17, 65536, 2147483648, TOP)


def calls_at(h, f, g):
    """One of each call on f and g, which would be answered with 0 where all places are right."""
    return (weights(h, (1, 1)), even(h, 1, 2), add(h, f, g), great(h, f, g), less(h, f, g),
            times(h, f, 2), mix(h, f, g, 1, 2), given(h, f, 0, 1))


def asking(f, g):
    """One of each call that only answers, which would be answered where all places are right."""
    return chance(f, 0, 0), beats(f, g), mean(f), quantile(f, 1, 2), form(f)


class Places(unittest.TestCase):
    def test_every_place_up_to_15(self):
        for place in range(16):
            made = even(place, 0, 1)
            for call in calls_at(place, place, place):
                self.assertEqual(last_answer(made, call), DONE)
            for call in asking(place, place):
                self.assertEqual(last_answer(made, call)[0], 0)
        calls = [even(place, place, place) for place in range(16)]
        self.assertEqual(kept_after(*calls), {place: [(place, 1)] for place in range(16)})

    def test_h_above_15_is_wrong(self):
        for place in BEYOND:
            for call in calls_at(place, 0, 0):
                self.assertEqual(last_answer(even(0, 0, 1), call), WRONG)
                self.assertEqual(kept_after(even(0, 0, 1), call), {0: [(0, 1), (1, 1)]})

    def test_f_or_g_above_15_is_wrong(self):
        made = [even(place, 0, 1) for place in range(16)]
        for place in BEYOND:
            for call in calls_at(0, place, 0)[2:] + (add(0, 0, place), great(0, 0, place), less(0, 0, place),
                                                     mix(0, 0, place, 1, 1), *asking(place, 0), beats(0, place)):
                self.assertEqual(last_answer(*made, call), WRONG)

    def test_f_or_g_with_nothing_kept_is_wrong(self):
        made = even(3, 0, 1)
        for place in (0, 2, 4, 15):
            for call in (add(3, place, 3), add(3, 3, place), great(3, place, 3), great(3, 3, place),
                         less(3, place, 3), less(3, 3, place), times(3, place, 0), times(3, place, 1),
                         mix(3, place, 3, 1, 1), mix(3, 3, place, 1, 1), given(3, place, 0, 1),
                         *asking(place, 3), beats(3, place)):
                self.assertEqual(last_answer(made, call), WRONG)
                self.assertEqual(kept_after(made, call), {3: [(0, 1), (1, 1)]})

    def test_nothing_is_kept_at_the_beginning(self):
        for place in range(16):
            for call in (times(place, place, 0), given(place, place, 0, 0), *asking(place, place)):
                self.assertEqual(last_answer(call), WRONG)
        self.assertEqual(kept_after(), {})

    def test_a_refused_call_keeps_nothing_at_h(self):
        self.assertEqual(answers_to(even(4, 0, 256), times(4, 4, 1)), [NO_FIT, WRONG])
        self.assertEqual(answers_to(even(4, 1, 0), times(4, 4, 1)), [WRONG, WRONG])
        self.assertEqual(answers_to(weights(4), times(4, 4, 1)), [WRONG, WRONG])
        self.assertEqual(answers_to(even(0, 0, 1), given(4, 0, 2, 3), form(4)), [DONE, NONE_THERE, WRONG])

    def test_a_place_written_over(self):
        self.assertEqual(kept_after(even(2, 0, 5), weights(2, (9, 4))), {2: [(9, 1)]})


class OldOnesCount(unittest.TestCase):
    """h may be f or g."""

    def test_h_equal_to_f_to_g_and_to_both(self):
        made = weights(0, (0, 1), (1, 2)), weights(1, (1, 3), (5, 1))
        for call in (add, great, less, lambda h, f, g: mix(h, f, g, 3, 5)):
            elsewhere = form_at(2, *made, call(2, 0, 1))
            self.assertEqual(form_at(0, *made, call(0, 0, 1)), elsewhere)
            self.assertEqual(form_at(1, *made, call(1, 0, 1)), elsewhere)
            self.assertEqual(form_at(0, *made, call(0, 0, 0)), form_at(2, *made, call(2, 0, 0)))
        self.assertEqual(form_at(0, *made, times(0, 0, 3)), form_at(2, *made, times(2, 0, 3)))
        self.assertEqual(form_at(1, *made, given(1, 1, 2, 9)), form_at(2, *made, given(2, 1, 2, 9)))

    def test_the_others_stay_as_they_were(self):
        made = weights(0, (0, 1), (1, 2)), weights(1, (1, 3), (5, 1))
        before = kept_after(*made)
        for call in calls_at(2, 0, 1):
            after = kept_after(*made, call)
            self.assertEqual((after[0], after[1]), (before[0], before[1]))

    def test_what_was_made_from_a_place_does_not_follow_it(self):
        made = even(0, 1, 2), times(1, 0, 1), mix(2, 0, 0, 1, 1), given(3, 0, 1, 2), even(0, 7, 7)
        form_made = [(1, 1), (2, 1)]
        self.assertEqual(kept_after(*made), {0: [(7, 1)], 1: form_made, 2: form_made, 3: form_made})


class Refusals(unittest.TestCase):
    """-1 comes before -5, that before -2, and refused calls change nothing."""

    def setUp(self):
        self.made = (even(0, 0, 255), even(1, 300, 555), even(2, FARTHEST, FARTHEST),
                     weights(3, (0, 1), (1, 4294967294)), weights(4, *[(2 * k, 1) for k in range(200)]),
                     weights(5, *[(2 * k + 1, 1) for k in range(200)]))

    def test_no_fit_changes_nothing(self):
        before = kept_after(*self.made)
        for h in (0, 2, 4, 6, 15):
            for call in (weights(h, (FARTHEST + 1, 1)), even(h, 0, 256), add(h, 0, 1), add(h, 2, 2), add(h, 3, 3),
                         great(h, 4, 5), less(h, 4, 5), times(h, 0, 2), times(h, 2, 3), times(h, 3, 2),
                         mix(h, 0, 1, 1, 1), mix(h, 3, 2, 65534, 65535)):
                self.assertEqual(last_answer(*self.made, call), NO_FIT)
                self.assertEqual(kept_after(*self.made, call), before)

    def test_wrong_changes_nothing(self):
        before = kept_after(*self.made)
        for call in (weights(0), weights(0, *[(1, 1)] * 257), even(0, 1, 0), add(0, 1, 9), great(0, 9, 1),
                     less(0, 0, 16), times(0, 1, 101), times(0, 9, 0), mix(0, 1, 2, 0, 1), mix(0, 1, 2, 1, 65536),
                     weights(16, (1, 1)), even(TOP, 1, 1), add(16, 2, 3), times(16, 2, 0)):
            self.assertEqual(last_answer(*self.made, call), WRONG)
            self.assertEqual(kept_after(*self.made, call), before)

    def test_none_there_changes_nothing(self):
        before = kept_after(*self.made)
        for h in (0, 2, 4, 6, 15):
            for call in (given(h, 0, 256, 300), given(h, 4, 1, 1), given(h, 0, 5, 4), given(h, 2, 0, FARTHEST - 1)):
                self.assertEqual(last_answer(*self.made, call), NONE_THERE)
                self.assertEqual(kept_after(*self.made, call), before)

    def test_asking_changes_nothing(self):
        before = kept_after(*self.made)
        for place in (*range(6), 9, 16):
            self.assertEqual(kept_after(*self.made, *asking(place, 3), *asking(3, place)), before)

    def test_wrong_where_it_does_not_fit_either(self):
        for call in (weights(16, (FARTHEST + 1, 1)), even(16, 0, 256), add(16, 0, 1), great(16, 4, 5), less(16, 4, 5),
                     times(16, 0, 2), times(0, 0, 101), mix(16, 0, 1, 1, 1), mix(6, 0, 1, 0, 1), mix(6, 0, 1, 1, 0),
                     mix(6, 0, 1, 65536, 1), mix(6, 0, 1, 1, 65536)):
            self.assertEqual(last_answer(*self.made, call), WRONG)

    def test_the_old_one_can_be_used_behind_a_refusal(self):
        self.assertEqual(answers_to(even(0, 0, 1), times(0, 0, 41), times(0, 0, 40), times(0, 0, 2), times(0, 0, 1)),
                         [DONE, NO_FIT, DONE, NO_FIT, DONE])


class LowestForm(unittest.TestCase):
    """Promise 2: what's kept is the one lowest form, and it fits."""

    def test_every_way_to_one_distribution_keeps_the_same(self):
        form = [(0, 1), (1, 2), (2, 1)]
        for calls in (
            [weights(0, (2, 5), (0, 5), (1, 10))],
            [even(0, 0, 1), add(0, 0, 0)],
            [even(0, 0, 1), times(0, 0, 2)],
            [even(0, 1, 1), even(1, 0, 2), weights(2, (0, 3), (2, 3)), mix(0, 0, 2, 7, 7)],
            [weights(1, (0, 2), (1, 4), (2, 2)), even(2, -5, 0), great(0, 1, 2)],
            [weights(1, (0, 2), (1, 4), (2, 2)), even(2, 2, 90), less(0, 1, 2)],
            [weights(1, (-1, 1), (0, 6), (1, 12), (2, 6), (3, 5)), given(0, 1, 0, 2)],
        ):
            self.assertEqual(form_at(0, *calls), form)

    def test_what_is_kept_is_in_lowest_form_and_fits(self):
        calls = [weights(0, (3, 6), (-4, 9), (8, 0)), even(1, -2, 2), add(2, 0, 1), great(3, 2, 1), less(4, 3, 0),
                 mix(5, 3, 4, 10, 20), times(6, 5, 2), mix(7, 6, 2, 65535, 3), add(8, 7, 7), great(9, 8, 6),
                 given(10, 9, 2, 8)]
        kept = kept_after(*calls)
        for form in kept.values():
            values = [value for value, weight in form]
            self.assertEqual(values, sorted(set(values)))
            self.assertEqual(gcd(*[weight for value, weight in form]), 1)
            self.assertTrue(all(weight > 0 for value, weight in form))
            self.assertTrue(len(form) <= 256)
            self.assertTrue(sum(weight for value, weight in form) <= 2 ** 40)

    def test_the_whole_weight_shows_which_form_is_kept(self):
        # Were the weights kept as told, 2 times would have a whole weight above 2^40.
        self.assertEqual(last_answer(weights(0, (0, TOP), (1, TOP)), times(0, 0, 40)), DONE)
        self.assertEqual(last_answer(weights(0, (0, TOP), (1, TOP)), add(0, 0, 0), add(0, 0, 0)), DONE)


if __name__ == "__main__":
    unittest.main()
