"""The calls open, gain and weights, and what holds for all calls."""

import unittest

from jetblocks.calorimeter import answers
from tests.helper import (
    CLEAR, FAR, FIND, JETS, PLAIN_WEIGHTS, SUMS, TOP, CallCase, ask, begin, block, cluster, first, flat, gain, hit, jet,
    last, parts, pulse, weights, window,
)


class NoCalorimeter(CallCase):
    def test_every_call_but_open_answers_minus_seven(self):
        calls = (
            gain(0), weights([1] * 8, [0] * 8), pulse(0, [1] * 8), block(0), FIND, cluster(0), parts(0), JETS, jet(0),
            SUMS, window(1, 1), CLEAR,
        )
        for call in calls:
            self.assertEqual(ask(call), [[-7]])
        self.assertEqual(ask(*calls), [[-7]] * len(calls))

    def test_arguments_out_of_range_do_not_matter_before_open(self):
        for value in (-1, 0, 33, 1024, FAR, -FAR):
            calls = (
                gain(value, value, value, value), weights([value] * 8, [value] * 8),
                pulse(value, [value] * 8, value), block(value), cluster(value), parts(value), jet(value),
                window(value, value), window(1, value), window(value, 1),
            )
            self.assertEqual(ask(*calls), [[-7]] * len(calls))

    def test_a_refused_open_makes_no_calorimeter(self):
        calls = (begin(reach=0), block(0), FIND, cluster(-1), parts(-1), JETS, jet(-1), SUMS, window(0, 0), CLEAR)
        self.assertEqual(ask(*calls), [[-2]] + [[-7]] * 9)

    def test_calls_ahead_of_open_change_nothing(self):
        self.assertEqual(ask(pulse(3, [9] * 8), begin(), block(3)), [[-7], [0], [0, 0, 0, 0]])
        self.assert_last([0, 1, 0, 0], gain(0, 5), begin(), pulse(3, first(1)), block(3))


class Open(CallCase):
    def test_answers_zero(self):
        self.assertEqual(answers([1, 5, 3, 100]), [1, 0])

    def test_range_of_low(self):
        self.assert_refused_around(lambda low: begin(TOP, low), 1, TOP, [])
        self.assert_last([-2], begin(FAR, FAR))

    def test_range_of_seed(self):
        self.assert_refused_around(lambda seed: begin(seed, 1), 1, TOP, [])
        self.assert_refused_around(lambda seed: begin(seed, 700), 700, TOP, [])
        self.assert_refused_around(lambda seed: begin(seed, TOP), TOP, TOP, [])

    def test_range_of_reach(self):
        self.assert_refused_around(lambda reach: begin(9, 4, reach), 1, 1024, [])

    def test_initial_values(self):
        found = ask(begin(), block(0), block(1023), block(500), cluster(0), FIND, cluster(0))
        self.assertEqual(found, [[0]] + [[0, 0, 0, 0]] * 3 + [[-2], [0], [-2]])

    def test_initial_gains_and_weights(self):
        for k in range(4):
            self.assert_last([0, 36, 0, 0], begin(), pulse(7, [1, 2, 3, 4, 5, 6, 7, 8], k), block(7))

    def test_settings_are_used(self):
        self.assert_last([1], begin(20, 10), hit(40, 20), FIND)
        self.assert_last([0], begin(21, 10), hit(40, 20), FIND)

    def test_a_second_open_replaces_everything(self):
        used = [begin(5, 5), gain(2, 3, 1, 2), weights([2] * 8, [3] * 8), pulse(9, [4095] * 8), FIND]
        self.assertEqual(last(*used), [1])
        again = used + [begin(40, 2)]
        self.assert_last([0, 0, 0, 0], *again, block(9))
        self.assert_last([-2], *again, cluster(0))
        self.assert_last([0], *again, FIND)
        for k in range(4):
            self.assert_last([0, 8, 0, 0], *again, pulse(9, [1] * 8, k), block(9))
        self.assert_last([0], *again, hit(9, 39), FIND)
        self.assert_last([1], *again, hit(9, 40), FIND)
        self.assert_last([2, 9, 42, 579, 0, 0, 0], *again, hit(9, 40), hit(10, 2), FIND, cluster(0))

    def test_a_refused_open_changes_nothing(self):
        for bad in (begin(0, 0), begin(3, 4), begin(TOP + 1, 1), begin(9, 9, 0), begin(9, 9, 1025), begin(FAR, FAR)):
            used = [begin(5, 5), gain(2, 3, 1, 2), weights([2] * 8, [3] * 8), pulse(9, first(12), 2), FIND]
            again = used + [bad]
            self.assert_last([-2], *again)
            # a = 2 * (10 - 2 * 7) < 0 for one sample, so all eight are given.
            self.assertEqual(last(*again, block(9)), last(*used, block(9)))
            self.assertEqual(last(*again, cluster(0)), last(*used, cluster(0)))
            self.assert_last([0, 24, 384, 0], *again, pulse(8, [3] * 8, 2), block(8))
            self.assert_last([1], *again, weights([1] * 8, [0] * 8), hit(70, 5), FIND)
            self.assert_last([0], *again, weights([1] * 8, [0] * 8), hit(70, 4), FIND)


class Gain(CallCase):
    def test_ranges(self):
        opened = [begin()]
        self.assert_refused_around(lambda k: gain(k, 1, 0, 0), 0, 3, opened)
        self.assert_refused_around(lambda mul: gain(1, mul, 0, 0), 1, 2 ** 20, opened)
        self.assert_refused_around(lambda shift: gain(1, 1, shift, 0), 0, 24, opened)
        self.assert_refused_around(lambda zero: gain(1, 1, 0, zero), 0, 4095, opened)

    def test_answers_zero(self):
        self.assertEqual(answers(begin() + [2, 3, 2 ** 20, 24, 4095]), [1, 0, 1, 0])

    def test_each_gain_is_set_by_itself(self):
        set_all = [begin()] + [gain(k, 10 + k) for k in range(4)]
        for k in range(4):
            self.assert_last([0, 2 * (10 + k), 0, 0], *set_all, pulse(5, first(2), k), block(5))

    def test_a_gain_is_set_anew_as_a_whole(self):
        self.assert_last([0, 80, 0, 0], begin(), gain(1, 7, 3, 5), gain(1, 1), pulse(5, [10] * 8, 1), block(5))

    def test_a_gain_does_not_change_blocks(self):
        self.assert_last([0, 2, 0, 0], begin(), pulse(5, first(2)), gain(0, 9), block(5))

    def test_a_refused_gain_changes_nothing(self):
        for bad in (gain(0, 0, 1, 1), gain(0, 7, 25, 1), gain(0, 7, 1, 4096), gain(0, 7, 1, -1), gain(4, 7, 1, 1)):
            found = ask(begin(), gain(0, 3, 0, 1), bad, pulse(5, [3] * 8), block(5))
            self.assertEqual(found[2:], [[-2], [1], [0, 48, 0, 0]])


class Weights(CallCase):
    def test_ranges_of_each_weight(self):
        for place in range(16):
            def one_weight(value):
                row = [1] * 16
                row[place] = value
                return weights(row[:8], row[8:])
            self.assert_refused_around(one_weight, -32768, 32767, [begin()])

    def test_each_weight_belongs_to_its_sample(self):
        w = [1, 2, 4, 8, 16, 32, 64, 128]
        v = [3, 5, 7, 11, 13, 17, 19, 23]
        for place in range(8):
            samples = [0] * 8
            samples[place] = 128
            time = (2 * 256 * v[place] + w[place]) // (2 * w[place])
            found = last(begin(), weights(w, v), pulse(1, samples), block(1))
            self.assertEqual(found, [0, 128 * w[place], time, 0])

    def test_weights_do_not_change_blocks(self):
        self.assert_last([0, 2, 0, 0], begin(), pulse(5, first(2)), weights([9] * 8, [9] * 8), block(5))

    def test_weights_are_kept_for_all_pulses(self):
        found = ask(begin(), weights([2] * 8, [1] * 8), pulse(5, [1] * 8), pulse(6, [2] * 8), block(5), block(6))
        self.assertEqual(found[4:], [[0, 16, 128, 0], [0, 32, 128, 0]])

    def test_refused_weights_change_nothing(self):
        for place in range(16):
            row = [9] * 16
            row[place] = 32768
            bad = weights(row[:8], row[8:])
            found = ask(begin(), weights([2] * 8, [1] * 8), bad, pulse(5, [1] * 8), block(5))
            self.assertEqual(found[2:], [[-2], [1], [0, 16, 128, 0]])


class Lists(CallCase):
    def test_the_form_of_the_answers(self):
        calls = begin(5, 1) + hit(33, 6) + block(33) + block(1024) + FIND + cluster(0) + cluster(1)
        self.assertEqual(
            answers(calls), [1, 0, 1, 1, 4, 0, 6, 0, 0, 1, -2, 1, 1, 7, 1, 33, 6, 64, 64, 0, 0, 1, -2],
        )

    def test_what_is_handed_in_is_not_changed(self):
        calls = flat([begin(), PLAIN_WEIGHTS, gain(1, 2), hit(3, 9), pulse(4, [4095] * 8, 1), FIND, cluster(0), [5, -1]])
        handed_in = list(calls)
        answers(handed_in)
        self.assertEqual(handed_in, calls)

    def test_nothing_is_kept_from_one_list_to_another(self):
        calls = flat([begin(), PLAIN_WEIGHTS, gain(0, 2), hit(3, 9, 5), FIND, cluster(0)])
        once = answers(calls)
        self.assertEqual(ask(block(3), FIND, cluster(0)), [[-7]] * 3)
        self.assertEqual(ask(begin(), block(3), cluster(0)), [[0], [0, 0, 0, 0], [-2]])
        self.assert_last([0, 8, 0, 0], begin(), pulse(3, [1] * 8), block(3))
        self.assertEqual(answers(calls), once)

    def test_an_answer_is_a_list_of_its_own(self):
        calls = begin() + block(3)
        answers(calls).append(5)
        self.assertEqual(answers(calls), [1, 0, 4, 0, 0, 0, 0])

    def test_eighty_calls(self):
        calls = [begin()] + [pulse(number, [1] * 8) for number in range(0, 77)] + [FIND, cluster(0)]
        self.assertEqual(len(calls), 80)
        self.assertEqual(len(ask(*calls)), 80)


if __name__ == "__main__":
    unittest.main()
