"""The calls sums and clear."""

import unittest

from tests import model
from tests.helper import (
    CLEAR, FIND, JETS, PLAIN_WEIGHTS, STRONG_WEIGHTS, SUMS, TOP, CallCase, Numbers, ask, at, begin, block, cluster,
    first, gain, hit, jet, last, parts, pulse, strong_hit, weights, window,
)


def hit_calls(hits, seed=10, low=1):
    return [begin(seed, low), PLAIN_WEIGHTS] + [hit(number, energy) for number, energy in hits.items()]


class Sums(CallCase):
    def sums(self, hits, seed=10, low=1):
        return last(*hit_calls(hits, seed, low), SUMS)

    def test_no_energy(self):
        self.assert_last([0, 0, 0, 0], begin(), SUMS)
        self.assert_last([0, 0, 0, 0], begin(), hit(40, 0), FIND, SUMS)
        self.assert_last([0, 0, 0, 0], begin(), pulse(40, first(4095)), pulse(40, [0] * 8), SUMS)

    def test_a_seed_alone(self):
        self.assertEqual(self.sums({40: 10}), [0, 10, 10, 0])
        self.assertEqual(self.sums({40: 9}), [0, 9, 0, 9])
        self.assertEqual(self.sums({0: 10, 1023: 9}), [0, 19, 10, 9])

    def test_low(self):
        self.assertEqual(self.sums({40: 10, 41: 4}, 10, 4), [0, 14, 14, 0])
        self.assertEqual(self.sums({40: 10, 41: 3}, 10, 4), [0, 13, 10, 3])

    def test_enough_energy_but_no_seed_beside(self):
        self.assertEqual(self.sums({40: 10, 42: 9}), [0, 19, 10, 9])
        self.assertEqual(self.sums({40: 30, 41: 20, 42: 19}), [0, 69, 50, 19])

    def test_columns_have_ends_and_rows_do_not(self):
        self.assertEqual(self.sums({at(4, 0): 10, at(4, 31): 5, at(3, 31): 3}), [0, 18, 10, 8])
        self.assertEqual(self.sums({at(0, 7): 10, at(31, 8): 5, at(30, 7): 3}), [0, 18, 15, 3])

    def test_a_divided_block_counts_once(self):
        self.assertEqual(self.sums({132: 10, 134: 20, 133: 8}), [0, 38, 38, 0])
        self.assertEqual(self.sums({132: 10, 134: 20, 133: 8}, 10, 9), [0, 38, 30, 8])

    def test_great_energies(self):
        calls = [begin(TOP, 1), gain(0, 2 ** 20), weights([1024] + [0] * 7, [0] * 8)]
        calls += [pulse(number, first(1024)) for number in range(76)]
        # Block 0 is the only seed of rows 0 to 2; 1, 32 and 33 belong to it.
        self.assert_last([0, 76 * TOP, 4 * TOP, 72 * TOP], *calls, SUMS)
        calls = [begin(TOP, 1), STRONG_WEIGHTS] + strong_hit(40, TOP) + strong_hit(50, TOP - 1)
        self.assert_last([0, 2 * TOP - 1, TOP, TOP - 1], *calls, SUMS)

    def test_present_blocks_not_those_of_the_clusters(self):
        calls = hit_calls({40: 10, 41: 5, 90: 8}) + [FIND, JETS, hit(40, 3), hit(90, 12), hit(200, 2)]
        self.assert_last([0, 22, 12, 10], *calls, SUMS)
        self.assert_last([0, 5, 0, 5], *hit_calls({40: 10, 41: 5}), FIND, hit(40, 0), SUMS)

    def test_a_new_seed_draws_blocks_away(self):
        # 41 belongs to 40 when clusters are found; then 42 outdoes it, and 43 belongs to 42.
        calls = hit_calls({40: 10, 41: 5, 43: 4}) + [FIND, hit(42, 11)]
        self.assert_last([0, 30, 30, 0], *calls, SUMS)
        calls = hit_calls({40: 10, 39: 5}) + [FIND, hit(41, 11)]
        self.assert_last([0, 26, 21, 5], *calls, SUMS)

    def test_before_any_clusters_are_found(self):
        calls = hit_calls({40: 10, 41: 5, 90: 8})
        self.assertEqual(ask(*calls, SUMS, cluster(0), parts(0), JETS)[len(calls):], [[0, 23, 15, 8], [-2], [-2], [0]])

    def test_clusters_and_jets_stay(self):
        calls = hit_calls({40: 10, 41: 5, 90: 18}) + [FIND, JETS, hit(40, 3), hit(300, 12)]
        queries = [cluster(0), cluster(1), cluster(2), parts(0), parts(1), jet(0), jet(1), jet(2), block(40)]
        self.assertEqual(ask(*calls, SUMS, *queries)[len(calls) + 1:], ask(*calls, *queries)[len(calls):])

    def test_asked_twice(self):
        calls = hit_calls({40: 10, 41: 5, 90: 8})
        self.assertEqual(ask(*calls, SUMS, SUMS)[len(calls):], [[0, 23, 15, 8]] * 2)

    def test_against_the_model(self):
        numbers = Numbers(3)
        regions = [
            [at(row, column) for row in range(-3, 4) for column in range(0, 7)],
            [at(row, column) for row in range(-3, 4) for column in range(25, 32)],
            list(range(1024)),
        ]
        for turn in range(60):
            region = regions[turn % 3]
            low = 1 + numbers.below(5)
            seed = low + numbers.below(6)
            hits = {region[numbers.below(len(region))]: numbers.below(12) for _ in range(40)}
            energies = [hits.get(number, 0) for number in range(1024)]
            inside = sum([energies[number] for number in model.inside(energies, seed, low)])
            expected = [0, sum(energies), inside, sum(energies) - inside]
            self.assertEqual(self.sums(hits, seed, low), expected)


class Clear(CallCase):
    def test_answers_zero(self):
        self.assertEqual(ask(begin(), CLEAR, CLEAR), [[0]] * 3)
        self.assert_last([0], begin(), hit(40, 10), FIND, JETS, CLEAR)

    def test_blocks_have_their_initial_values(self):
        calls = [begin(), weights([1] * 8, [1] * 8), pulse(0, [4095] * 8), pulse(1023, first(4095)), pulse(500, first(7))]
        numbers = (0, 1, 500, 1023)
        self.assertEqual(last(*calls, block(0)), [0, 32760, 256, 1])
        for number in numbers:
            self.assert_last([0, 0, 0, 0], *calls, CLEAR, block(number))
        self.assert_last([0, 0, 0, 0], *calls, CLEAR, SUMS)
        self.assert_last([0, 0], *calls, CLEAR, window(1, 1))

    def test_clusters_and_jets_are_removed(self):
        calls = hit_calls({40: 10, 90: 12}) + [FIND, JETS]
        self.assertEqual(ask(*calls, cluster(1), parts(1), jet(1))[len(calls):][0][:3], [1, 90, 12])
        for number in (-1, 0, 1, 2):
            for call in (cluster(number), parts(number), jet(number)):
                self.assert_last([-2], *calls, CLEAR, call)
        self.assertEqual(ask(*calls, CLEAR, JETS, jet(0))[len(calls) + 1:], [[0], [-2]])
        self.assertEqual(ask(*calls, CLEAR, FIND, cluster(0))[len(calls) + 1:], [[0], [-2]])

    def test_gains_stay(self):
        for k in range(4):
            calls = [begin(), gain(k, 7, 1, 2), CLEAR, pulse(9, [10] * 8, k), block(9)]
            self.assert_last([0, 224, 0, 0], *calls)

    def test_weights_stay(self):
        calls = [begin(), weights([1, 2, 3, 4, 5, 6, 7, 8], [8, 7, 6, 5, 4, 3, 2, 1])]
        ending = [pulse(9, [1, 0, 2, 0, 3, 0, 0, 1]), block(9)]
        self.assertEqual(last(*calls, CLEAR, *ending), last(*calls, *ending))
        self.assertEqual(last(*calls, CLEAR, *ending)[1], 30)

    def test_settings_stay(self):
        opened = begin(10, 4, 200)
        pulses = [PLAIN_WEIGHTS, hit(40, 10), hit(41, 4), hit(39, 3), hit(43, 9), hit(45, 12), hit(104, 11)]
        queries = [FIND, cluster(0), cluster(1), cluster(2), JETS, jet(0), jet(1), SUMS]
        plain = ask(opened, *pulses, *queries)[8:]
        self.assertEqual(plain[0], [3])
        self.assertEqual(ask(opened, hit(7, 99), FIND, JETS, CLEAR, *pulses, *queries)[12:], plain)
        for reach, count in ((128, 2), (129, 1)):
            calls = [begin(1, 1, reach), hit(9, 9), FIND, CLEAR, hit(40, 10), hit(42, 8), FIND, JETS]
            self.assert_last([count], *calls)

    def test_blocks_can_be_hit_anew(self):
        self.assert_last([0, 5, 0, 0], begin(), hit(40, 9), CLEAR, hit(40, 5), block(40))
        self.assert_last([0, 5, 5, 0], begin(), hit(40, 9), hit(50, 8), CLEAR, hit(40, 5), SUMS)


if __name__ == "__main__":
    unittest.main()
