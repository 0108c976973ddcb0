"""evenshare.desk.answers: the one list handed in, the one list given back."""

import unittest

import evenshare.desk
from tests.helper import (FARTHEST, LEAST, MOST, TOP, add, answers_to, beats, chance, even, flat, form, given,
                          great, less, mean, mix, quantile, times, weights)


class Interface(unittest.TestCase):
    def test_one_list_in_one_list_out(self):
        calls = [0, 3, 4, 10, 1, 20, 2, 1, 4, 1, 6, 2, 5, 3, 4, 3, 5, 3, 4, 4, 5, 3, 4, 5, 5, 3, 2, 6, 5, 3, 4, 1, 2]
        self.assertEqual(evenshare.desk.answers(calls), [1, 0] * 7)

    def test_how_many_numbers_are_answered_stands_ahead_of_them(self):
        calls = [1, 0, 1, 3, 7, 1, 0, 2, 9, 8, 0, 1, 2, 9, 1, 0, 10, 1, 11, 0, 2, 3, 12, 1, 12, 0, 12, 2]
        self.assertEqual(evenshare.desk.answers(calls), [
            1, 0, 1, 0, 3, 0, 2, 3, 3, 0, 1, 2, 3, 0, 5, 2, 2, 0, 2, 5, 0, 2, 1, 3, 1, 7, 0, 1, 1, 2, 1, 3, 1, 1, -1])

    def test_refusals_stand_by_their_number_alone(self):
        calls = [0, 0, 0, 1, 0, 0, 256, 1, 0, 5, 5, 2, 1, 0, 1, 5, 0, 0, 3]
        self.assertEqual(evenshare.desk.answers(calls), [1, -1, 1, -2, 1, 0, 1, -1, 1, 0])
        calls = [1, 0, 1, 3, 7, 1, 0, 4, 9, 7, 1, 2, 4, 9, 8, 2, 1, 2, 9, 0, 2, 10, 2, 11, 0, 3, 2, 12, 2]
        self.assertEqual(evenshare.desk.answers(calls), [1, 0, 1, -5, 1, -1, 1, -1, 1, -1, 1, -1, 1, -1, 1, -1])

    def test_a_row_that_is_refused_is_passed_over_whole(self):
        long_row = weights(0, *[(2, 1)] * 300)
        self.assertEqual(evenshare.desk.answers(long_row + weights(16, (1, 2), (2, 1)) + weights(0) + even(0, 1, 1)),
                         [1, -1, 1, -1, 1, -1, 1, 0])

    def test_the_answer_is_a_list_of_whole_numbers(self):
        told = evenshare.desk.answers(flat([
            even(0, 1, 1), even(0, 1, 0), given(0, 0, 1, 1), given(0, 0, 2, 2), chance(0, 1, 1), chance(0, 2, 2),
            beats(0, 0), mean(0), quantile(0, 1, 1), form(0)]))
        self.assertIs(type(told), list)
        self.assertEqual({type(number) for number in told}, {int})

    def test_what_is_handed_in_is_not_changed(self):
        class Watched(list):
            def change(self, *arguments):
                raise RuntimeError("changed")

            __setitem__ = __delitem__ = __iadd__ = __imul__ = change
            append = extend = insert = pop = remove = clear = sort = reverse = change

        calls = flat([weights(0, (3, 2), (1, 2)), even(1, 0, 256), times(1, 0, 5), add(0, 0, 1), mix(0, 0, 1, 1, 1),
                      weights(2), great(3, 0, 1), less(3, 3, 3), given(4, 3, 2, 9), given(4, 4, 3, 2),
                      chance(0, 1, 2), beats(0, 1), mean(3), quantile(3, 1, 2), form(3), form(9)])
        watched = Watched(calls)
        self.assertEqual(evenshare.desk.answers(watched), evenshare.desk.answers(calls))
        self.assertEqual(list(watched), calls)

    def test_nothing_is_kept_from_one_time_to_the_next(self):
        making = flat([even(place, 0, 1) for place in range(16)])
        using = flat([add(0, 0, 1), times(2, 3, 0), great(4, 5, 6), mix(7, 8, 9, 1, 1), less(15, 15, 15),
                      given(10, 11, 0, 0)])
        asking = flat([chance(1, 0, 0), beats(3, 5), mean(6), quantile(8, 1, 2), form(11)])
        told = [3, 0, 1, 2, 3, 0, 1, 4, 3, 0, 1, 2, 2, 0, 0, 5, 0, 0, 1, 1, 1]
        for again in range(3):
            self.assertEqual(evenshare.desk.answers(making), [1, 0] * 16)
            self.assertEqual(evenshare.desk.answers(using), [1, -1] * 6)
            self.assertEqual(evenshare.desk.answers(asking), [1, -1] * 5)
            self.assertEqual(evenshare.desk.answers(making + using), [1, 0] * 22)
            self.assertEqual(evenshare.desk.answers(making + asking), [1, 0] * 16 + told)

    def test_what_is_given_back_is_the_callers_own(self):
        first = evenshare.desk.answers(even(0, 1, 1))
        first.append(99)
        self.assertEqual(evenshare.desk.answers(even(0, 1, 1)), [1, 0])
        first = evenshare.desk.answers(even(0, 1, 1) + form(0))
        first.clear()
        self.assertEqual(evenshare.desk.answers(even(0, 1, 1) + form(0)), [1, 0, 3, 0, 1, 1])

    def test_numbers_at_the_ends_of_their_ranges(self):
        calls = [weights(TOP, (LEAST, TOP), (MOST, TOP)), weights(0, (LEAST, TOP)), weights(0, (MOST, 1)),
                 even(TOP, LEAST, MOST), even(0, LEAST, LEAST), even(0, MOST, MOST), add(TOP, TOP, TOP),
                 great(TOP, TOP, TOP), less(TOP, TOP, TOP), times(TOP, TOP, TOP), mix(TOP, TOP, TOP, TOP, TOP),
                 given(TOP, TOP, LEAST, MOST), chance(TOP, LEAST, MOST), beats(TOP, TOP), mean(TOP),
                 quantile(TOP, TOP, TOP), form(TOP)]
        self.assertEqual(answers_to(*calls), [[-1], [-2], [-2], [-1], [-2], [-2]] + [[-1]] * 11)

    def test_numbers_at_the_farthest_that_fit(self):
        calls = [weights(15, (-FARTHEST, TOP), (FARTHEST, TOP)), times(14, 15, 1), add(13, 15, 14),
                 mix(13, 14, 15, 1, 2), given(12, 15, LEAST, -1), chance(15, 0, MOST), beats(15, 12), mean(12),
                 quantile(15, TOP, TOP), form(15)]
        self.assertEqual(answers_to(*calls), [[0], [0], [-2], [0], [0], [0, 1, 2], [0, 1, 2], [0, -FARTHEST, 1],
                                              [0, FARTHEST], [0, -FARTHEST, 1, FARTHEST, 1]])


class ManyCalls(unittest.TestCase):
    def test_300_calls_with_places_written_over(self):
        # Place 0 walks 1 further with each call and never grows.
        calls = [even(1, 1, 1), even(0, 0, 1)]
        while len(calls) < 300:
            calls.append(add(0, 0, 1))
        self.assertEqual(answers_to(*calls), [[0]] * 300)

    def test_300_calls_on_all_places_fit_as_long_as_they_may(self):
        # Each place doubles its reach of 2^17 by sums: 13 of them fit, the others don't.
        calls = [even(place, 131072, 131072) for place in range(16)]
        expected = [[0]] * 16
        for turn in range(17):
            for place in range(16):
                calls.append(add(place, place, place))
                expected.append([0] if turn < 13 else [-2])
        self.assertEqual(answers_to(*calls), expected)

    def test_300_calls_that_are_as_much_work_as_can_be(self):
        spread = [even(0, 0, 127), even(1, 0, 128), weights(2, *[(1000 * k, k + 1) for k in range(128)]),
                  weights(3, *[(2 * k, k + 1) for k in range(256)]), weights(4, *[(2 * k + 1, 1) for k in range(256)])]
        turns = [add(5, 0, 1), add(5, 2, 1), great(5, 3, 4), less(5, 3, 4), times(5, 0, 100), mix(5, 3, 4, 65535, 1)]
        expected = [[0], [-2], [-2], [-2], [-2], [-2]]
        calls = spread + turns * 49
        self.assertEqual(answers_to(*calls), [[0]] * 5 + expected * 49)

    def test_300_calls_that_answer_as_much_as_can_be(self):
        spread = weights(0, *[(3 * k, TOP - k) for k in range(256)]), even(1, 1, 256)
        turns = [form(0), form(1), beats(0, 0), mean(1), quantile(0, 1, 1), chance(1, 1, 128), given(2, 0, 0, 9)]
        told = answers_to(*spread, *turns * 42)
        self.assertEqual(told[2:9], told[-7:])
        self.assertEqual([len(answer) for answer in told], [1, 1] + [513, 513, 1, 3, 2, 3, 1] * 42)
        self.assertEqual(told[4:9], [[-2], [0, 257, 2], [0, 765], [0, 1, 2], [0]])

    def test_a_list_as_long_as_it_may_be(self):
        row = weights(0, *[(k, 1) for k in range(256)])
        calls = row * 31 + even(1, 0, 1) * 8
        self.assertTrue(15900 < len(calls) <= 16000)
        self.assertEqual(evenshare.desk.answers(calls), [1, 0] * 39)

    def test_a_list_of_one_call(self):
        self.assertEqual(evenshare.desk.answers([1, 15, 0, 0]), [1, 0])


if __name__ == "__main__":
    unittest.main()
