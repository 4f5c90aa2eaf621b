"""The calls pulse and block."""

import unittest

from jetblocks.rounding import nearest
from tests.helper import FAR, TOP, CallCase, ask, begin, block, first, gain, last, pulse, weights


def only_first(w, v):
    """Weights of the first sample; the others don't count."""
    return weights([w] + [0] * 7, [v] + [0] * 7)


def two_weights(w, v):
    """The first sample makes a, the second one b."""
    return weights([w] + [0] * 7, [0, v] + [0] * 6)


class Ranges(CallCase):
    def test_pulse(self):
        opened = [begin()]
        self.assert_refused_around(lambda number: pulse(number, [1] * 8), 0, 1023, opened)
        self.assert_refused_around(lambda k: pulse(5, [1] * 8, k), 0, 3, opened)
        for place in range(8):
            def one_sample(value):
                samples = [1] * 8
                samples[place] = value
                return pulse(5, samples)
            self.assert_refused_around(one_sample, 0, 4095, opened)

    def test_block(self):
        self.assert_refused_around(block, 0, 1023, [begin()])

    def test_a_refused_pulse_changes_nothing(self):
        samples = [4095] * 7
        for bad in (pulse(5, samples + [4096]), pulse(5, samples + [-1]), pulse(5, samples + [0], 4), pulse(5, [FAR] * 8)):
            found = ask(begin(), weights([1] * 8, [2] * 8), pulse(5, [1] * 8), bad, block(5))
            self.assertEqual(found[3:], [[-2], [0, 8, 512, 0]])


class Energy(CallCase):
    def energy_of(self, mul, shift, zero, w, samples):
        calls = [begin(), gain(0, mul, shift, zero), weights(w, [0] * 8), pulse(77, samples), block(77)]
        found = ask(*calls)
        self.assertEqual(found[3], [1 if found[4][1] > 0 else 0])
        return found[4][1]

    def test_ordinary(self):
        self.assertEqual(self.energy_of(5, 2, 10, [1, 2, 3, 0, 0, 0, 0, 0], first(11, 12, 13)), (1 + 4 + 9) * 5 // 4)
        self.assertEqual(self.energy_of(3, 0, 100, [1] * 8, [100] * 7 + [101]), 3)
        self.assertEqual(self.energy_of(1, 0, 5, [1] * 8, [0] * 7 + [4094]), 4094 - 40)

    def test_rounded_down(self):
        self.assertEqual(self.energy_of(1, 3, 0, [1] * 8, first(15)), 1)
        self.assertEqual(self.energy_of(1, 3, 0, [1] * 8, first(16)), 2)
        self.assertEqual(self.energy_of(1, 24, 0, [4096] + [0] * 7, first(4094)), 0)
        self.assertEqual(self.energy_of(1, 24, 0, [8192] + [0] * 7, first(2048)), 1)

    def test_multiplied_before_it_is_shifted(self):
        self.assertEqual(self.energy_of(7, 3, 0, [1] * 8, first(9)), 7)

    def test_limit(self):
        w = [1024, 1] + [0] * 6
        self.assertEqual(self.energy_of(2 ** 20, 0, 0, [1023] + [0] * 7, first(1025)), TOP - 2 ** 20)
        self.assertEqual(self.energy_of(2 ** 20, 0, 0, w, first(1024, 0)), TOP)
        self.assertEqual(self.energy_of(2 ** 20, 0, 0, w, first(1024, 1)), TOP)
        self.assertEqual(self.energy_of(2 ** 20, 0, 0, [32767] * 8, [4095] * 8), TOP)
        self.assertEqual(self.energy_of(2 ** 20, 1, 0, w, first(2048, 1)), TOP)
        self.assertEqual(self.energy_of(2 ** 20, 1, 0, w, first(2047, 1023)), TOP - 2 ** 19)

    def test_sum_zero_or_negative(self):
        for w, samples in (([1, -1], first(9, 9)), ([1, -1], first(9, 10)), ([-1, 0], first(4095)), ([0, 0], first(3))):
            found = ask(begin(), weights(w + [0] * 6, [5] * 8), pulse(3, samples), block(3))
            self.assertEqual(found[2:], [[0], [0, 0, 0, 1 if 4095 in samples else 0]])
        found = ask(begin(), gain(0, 9, 0, 10), weights([1] * 8, [5] * 8), pulse(3, [10] * 8), block(3))
        self.assertEqual(found[3:], [[0], [0, 0, 0, 0]])
        found = ask(begin(), gain(0, 9, 0, 4095), weights([1] * 8, [5] * 8), pulse(3, [0] * 8), block(3))
        self.assertEqual(found[3:], [[0], [0, 0, 0, 0]])

    def test_smallest_positive_sum(self):
        found = ask(begin(), weights([1, -1] + [0] * 6, [1] + [0] * 7), pulse(3, first(3, 2)), block(3))
        self.assertEqual(found[2:], [[1], [0, 1, 768, 0]])

    def test_negative_weights_below_zero_add_up(self):
        self.assertEqual(self.energy_of(1, 0, 10, [-2] * 8, [3] * 8), 112)

    def test_no_energy_but_a_time(self):
        found = ask(begin(), gain(0, 1, 4), weights([1] * 8, [2] * 8), pulse(3, first(15)), block(3))
        self.assertEqual(found[3:], [[0], [0, 0, 512, 0]])


class Time(CallCase):
    def time_of(self, w, v, one, other, zero=0):
        return last(begin(), gain(0, 1, 0, zero), two_weights(w, v), pulse(9, first(one, other)), block(9))[2]

    def test_ordinary(self):
        self.assertEqual(self.time_of(1, 1, 100, 50), 128)
        self.assertEqual(self.time_of(1, -1, 100, 50), -128)
        self.assertEqual(self.time_of(1, 1, 100, 0), 0)

    def test_zero_counts_for_both_sums(self):
        found = last(begin(), gain(0, 1, 0, 10), only_first(1, 3), pulse(9, first(14)), block(9))
        self.assertEqual(found, [0, 4, 768, 0])
        self.assertEqual(self.time_of(1, 1, 14, 9, 10), -64)

    def test_gain_does_not_scale_the_time(self):
        found = last(begin(), gain(0, 1000, 3, 0), two_weights(1, 1), pulse(9, first(100, 50)), block(9))
        self.assertEqual(found, [0, 12500, 128, 0])

    def test_rounded_to_nearest(self):
        for a, b, expected in (
            (1024, 1, 0), (1024, 2, 1), (1024, 3, 1), (1024, 5, 1), (1024, 6, 2), (768, 1, 0), (768, 2, 1),
            (512, 1, 1), (512, 3, 2), (512, 5, 3), (3, 1, 85), (3, 2, 171), (7, 1, 37), (7, 3, 110),
        ):
            self.assertEqual(self.time_of(1, 1, a, b), expected, (a, b))

    def test_negative_quotients_rounded_to_nearest(self):
        for a, b, expected in (
            (1024, 1, 0), (1024, 2, 0), (1024, 3, -1), (1024, 5, -1), (1024, 6, -1), (1024, 7, -2), (768, 1, 0),
            (768, 2, -1), (512, 1, 0), (512, 3, -1), (512, 5, -2), (3, 1, -85), (3, 2, -171),
        ):
            self.assertEqual(self.time_of(1, -1, a, b), expected, (a, b))

    def test_greatest(self):
        self.assertEqual(self.time_of(1, 32766, 256, 1), 32766)
        self.assertEqual(self.time_of(1, 32767, 256, 1), 32767)
        self.assertEqual(self.time_of(1, 32767, 255, 1), 32767)
        self.assertEqual(self.time_of(1, 128, 1, 1), 32767)
        self.assertEqual(self.time_of(1, 32767, 1, 4095), 32767)

    def test_least(self):
        self.assertEqual(self.time_of(1, -32767, 256, 1), -32767)
        self.assertEqual(self.time_of(1, -32768, 256, 1), -32768)
        self.assertEqual(self.time_of(1, -128, 1, 1), -32768)
        self.assertEqual(self.time_of(1, -129, 1, 1), -32768)
        self.assertEqual(self.time_of(1, -32768, 1, 4095), -32768)

    def test_time_beside_the_greatest_energy(self):
        calls = [begin(), gain(0, 2 ** 20), two_weights(32767, 32767), pulse(9, first(4000, 1000)), block(9)]
        self.assert_last([0, TOP, 64, 0], *calls)

    def test_nearest(self):
        for dividend, divisor, expected in (
            (0, 1, 0), (7, 2, 4), (-7, 2, -3), (5, 3, 2), (4, 3, 1), (-4, 3, -1), (-5, 3, -2), (1, 2, 1), (-1, 2, 0),
            (3 * 2 ** 80, 2 ** 81, 2), (-3 * 2 ** 80, 2 ** 81, -1),
        ):
            self.assertEqual(nearest(dividend, divisor), expected)


class Full(CallCase):
    def test_one_sample_is_enough(self):
        for place in range(8):
            samples = [1] * 8
            samples[place] = 4095
            self.assert_last([0, 4102, 0, 1], begin(), pulse(2, samples), block(2))
            samples[place] = 4094
            self.assert_last([0, 4101, 0, 0], begin(), pulse(2, samples), block(2))

    def test_full_without_energy(self):
        found = ask(begin(), weights([0] * 8, [0] * 8), pulse(2, first(4095)), block(2))
        self.assertEqual(found[2:], [[0], [0, 0, 0, 1]])
        self.assert_last([0, 0, 0, 1], begin(), gain(0, 1, 0, 4095), pulse(2, [4095] * 8), block(2))

    def test_zero_does_not_count(self):
        self.assert_last([0, 8, 0, 0], begin(), gain(0, 1, 0, 4093), pulse(2, [4094] * 8), block(2))


class Blocks(CallCase):
    def test_a_pulse_changes_its_block_only(self):
        found = ask(begin(), pulse(0, [1] * 8), pulse(1023, [2] * 8), block(0), block(1), block(1022), block(1023))
        self.assertEqual(found[3:], [[0, 8, 0, 0], [0, 0, 0, 0], [0, 0, 0, 0], [0, 16, 0, 0]])

    def test_a_pulse_replaces_what_the_block_held(self):
        calls = [begin(), weights([1] * 8, [1] * 8), pulse(6, [4095] * 8)]
        self.assert_last([0, 32760, 256, 1], *calls, block(6))
        self.assert_last([0, 8, 256, 0], *calls, pulse(6, [1] * 8), block(6))
        self.assertEqual(ask(*calls, pulse(6, [0] * 8), block(6))[3:], [[0], [0, 0, 0, 0]])

    def test_the_gain_is_the_one_named(self):
        calls = [begin(), gain(1, 2, 0, 1), gain(2, 8, 2, 0), gain(3, 1, 1, 2)]
        for k, energy in ((0, 80), (1, 144), (2, 160), (3, 32)):
            self.assert_last([0, energy, 0, 0], *calls, pulse(6, [10] * 8, k), block(6))

    def test_block_can_be_asked_again(self):
        found = ask(begin(), pulse(6, [1] * 8), block(6), block(6))
        self.assertEqual(found[2], found[3])


if __name__ == "__main__":
    unittest.main()
