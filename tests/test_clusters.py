"""The calls find_clusters and cluster."""

import unittest

from jetblocks.clusters import clusters_of, divide
from jetblocks.grid import neighbours
from tests import model
from tests.helper import (
    FIND, PLAIN_WEIGHTS, TOP, CallCase, Numbers, ask, at, begin, block, cluster, first, gain, hit, last, pulse, weights,
)


def found_clusters(hits, seed=10, low=1):
    """The answers about all clusters of blocks with these energies; hits is a dict from block to energy."""
    calls = [begin(seed, low), PLAIN_WEIGHTS] + [hit(number, energy) for number, energy in hits.items()] + [FIND]
    count = last(*calls)[0]
    return ask(*calls, *[cluster(number) for number in range(count)])[len(calls):]


def seeds(hits, seed=10, low=1):
    return [answer[1] for answer in found_clusters(hits, seed, low)]


class Neighbours(unittest.TestCase):
    def test_all(self):
        for number in range(1024):
            expected = [other for other in range(1024) if model.near(number, other)]
            self.assertEqual(neighbours(number), expected)
            self.assertEqual(len(expected), 5 if number % 32 in (0, 31) else 8)


class Seeds(CallCase):
    def test_none(self):
        self.assertEqual(seeds({}), [])
        self.assertEqual(seeds({5: 9}), [])

    def test_just_at_and_below_seed(self):
        self.assertEqual(seeds({5: 10}), [5])
        self.assertEqual(seeds({5: 9, 100: 10, 200: 11}), [100, 200])

    def test_greatest_seed_setting(self):
        calls = [begin(TOP, 1), gain(0, 2 ** 20), weights([1024] + [0] * 7, [0] * 8)]
        self.assert_last([1], *calls, pulse(5, first(1024)), FIND)
        self.assert_last([0], *calls, pulse(5, first(1023)), FIND)

    def test_a_neighbour_with_more_energy(self):
        center = at(10, 10)
        for other in neighbours(center):
            self.assertEqual(seeds({center: 10, other: 11}), [other])
            self.assertEqual(seeds({center: 11, other: 10}), [center])

    def test_equal_energies_among_neighbours(self):
        center = at(10, 10)
        for other in neighbours(center):
            self.assertEqual(seeds({center: 10, other: 10}), [min(center, other)])

    def test_equal_energies_two_apart(self):
        self.assertEqual(seeds({at(4, 4): 10, at(4, 6): 10, at(6, 5): 10}), [at(4, 4), at(4, 6), at(6, 5)])

    def test_a_row_of_equals(self):
        # The third is no seed: its neighbour with a smaller number has the same energy, though that is no seed.
        self.assertEqual(seeds({at(4, 4): 10, at(4, 5): 10, at(4, 6): 10}), [at(4, 4)])

    def test_a_neighbour_below_the_seed_setting_still_counts(self):
        self.assertEqual(seeds({at(4, 4): 12, at(4, 5): 11, at(4, 6): 10}), [at(4, 4)])

    def test_rows_are_a_cycle(self):
        for column, other in ((3, 2), (3, 3), (3, 4), (0, 0), (0, 1), (31, 31), (31, 30)):
            top = at(0, column)
            bottom = at(31, other)
            self.assertEqual(seeds({top: 10, bottom: 11}), [bottom])
            self.assertEqual(seeds({top: 11, bottom: 10}), [top])
            self.assertEqual(seeds({top: 10, bottom: 10}), [top])
        self.assertEqual(seeds({at(0, 3): 10, at(30, 3): 11}), [at(0, 3), at(30, 3)])
        self.assertEqual(seeds({at(1, 3): 10, at(31, 3): 11}), [at(1, 3), at(31, 3)])

    def test_columns_are_not(self):
        for step in (-1, 0, 1):
            left = at(9, 0)
            right = at(9 + step, 31)
            self.assertEqual(seeds({left: 10, right: 11}), sorted([left, right]))
            self.assertEqual(seeds({left: 10, right: 10}), sorted([left, right]))
        self.assertEqual(seeds({0: 10, 31: 10, 992: 10, 1023: 10}), [0, 31])

    def test_numbered_by_increasing_seeds(self):
        self.assertEqual(seeds({900: 10, 3: 11, 500: 12, 1020: 13, 70: 30}), [3, 70, 500, 900, 1020])


class Belonging(CallCase):
    def test_each_neighbour_belongs(self):
        center = at(0, 10)
        for other in neighbours(center):
            self.assertEqual(found_clusters({center: 10, other: 4})[0][:3], [2, center, 14])

    def test_just_at_and_below_low(self):
        self.assertEqual(found_clusters({40: 10, 41: 3, 39: 4}, 10, 4)[0][:3], [2, 40, 14])
        self.assertEqual(found_clusters({40: 10, 41: 3, 39: 3}, 10, 4)[0][:3], [1, 40, 10])
        self.assertEqual(found_clusters({40: 10, 41: 9}, 10, 10)[0][:3], [1, 40, 10])

    def test_at_least_seed_but_no_seed(self):
        self.assertEqual(found_clusters({40: 30, 41: 20})[0][:3], [2, 40, 50])

    def test_enough_energy_but_no_seed_among_the_neighbours(self):
        self.assertEqual(found_clusters({40: 30, 42: 9}), [[1, 40, 30, 512, 64, 0, 0]])
        self.assertEqual(found_clusters({40: 30, 41: 20, 42: 19}), [[2, 40, 50, 538, 64, 0, 0]])

    def test_no_belonging_across_the_columns_ends(self):
        self.assertEqual(found_clusters({at(4, 0): 10, at(4, 31): 5, at(3, 31): 6, at(5, 31): 7})[0][:3], [1, 128, 10])

    def test_a_seed_belongs_to_itself_only(self):
        found = found_clusters({at(4, 4): 10, at(4, 6): 20, at(4, 5): 1})
        self.assertEqual([answer[:3] for answer in found], [[2, 132, 10], [2, 134, 21]])

    def test_blocks_without_energy_do_not_belong(self):
        self.assertEqual(found_clusters({40: 10}, 1, 1)[0][:3], [1, 40, 10])

    def test_nine_parts(self):
        center = at(31, 5)
        hits = {center: 100}
        for other in neighbours(center):
            hits[other] = 3
        self.assertEqual(found_clusters(hits), [[9, center, 124, 320, 1984, 0, 0]])


class Sharing(CallCase):
    def energies(self, hits, low=1):
        return [answer[2] for answer in found_clusters(hits, 10, low)]

    def test_without_remainder(self):
        self.assertEqual(self.energies({at(4, 4): 10, at(4, 6): 20, at(4, 5): 9}), [13, 26])

    def test_remainder_to_the_greatest(self):
        # 8 * 10 / 30 = 2.67 and 8 * 20 / 30 = 5.33.
        self.assertEqual(self.energies({at(4, 4): 10, at(4, 6): 20, at(4, 5): 8}), [12, 26])
        self.assertEqual(self.energies({at(4, 4): 20, at(4, 6): 10, at(4, 5): 8}), [26, 12])

    def test_remainder_to_the_smallest_number_of_several_greatest(self):
        self.assertEqual(self.energies({at(4, 4): 10, at(4, 6): 10, at(4, 5): 7}), [14, 13])
        self.assertEqual(self.energies({at(3, 5): 10, at(5, 5): 10, at(4, 5): 7}), [14, 13])

    def test_smallest_number_across_the_rows_cycle(self):
        # Row 31 is above row 0, but its blocks have the greater numbers.
        self.assertEqual(self.energies({at(31, 5): 10, at(1, 5): 10, at(0, 5): 7}), [14, 13])

    def test_four_seeds(self):
        corners = {at(3, 3): 10, at(3, 5): 11, at(5, 3): 12, at(5, 5): 12}
        corners[at(4, 4)] = 9
        # 2, 2.2, 2.4 and 2.4 are left as 2 each; the remainder 1 goes to the first of the greatest.
        self.assertEqual(self.energies(corners), [12, 13, 15, 14])

    def test_remainder_of_more_than_one(self):
        corners = {at(3, 3): 10, at(3, 5): 10, at(5, 3): 10, at(5, 5): 10}
        corners[at(4, 4)] = 7
        self.assertEqual(self.energies(corners), [14, 11, 11, 11])

    def test_parts_of_no_energy_still_count(self):
        found = found_clusters({at(4, 4): 10, at(4, 6): 20, at(4, 5): 1})
        self.assertEqual(found, [[2, 132, 10, 256, 256, 0, 0], [2, 134, 21, 381, 256, 0, 0]])

    def test_below_low_nothing_is_shared(self):
        self.assertEqual(self.energies({at(4, 4): 10, at(4, 6): 20, at(4, 5): 8}, 9), [10, 20])

    def test_great_energies(self):
        self.assertEqual(divide(TOP, [TOP, TOP - 1, TOP]), [366503875926, 366503875925, 366503875925])
        calls = [begin(), gain(0, 2 ** 20), weights([1024] + [0] * 7, [0] * 8)]
        calls += [pulse(number, first(1024)) for number in (at(4, 4), at(4, 6), at(5, 5))]
        # at(5, 5) is next to both, has the same energy as they, and is no seed.
        found = ask(*calls, FIND, cluster(0), cluster(1))
        self.assertEqual(found[7:], [
            [2, 132, TOP + TOP // 2, 277, 277, 0, 0], [2, 134, TOP + TOP // 2, 363, 277, 0, 0],
        ])

    def test_order_of_the_parts(self):
        center = at(0, 5)
        energies = [0] * 1024
        for other in [center] + neighbours(center):
            energies[other] = 5
        energies[center] = 10
        parts = clusters_of(energies, 10, 1)[0].parts
        expected = [4, 5, 6, 36, 37, 38, 996, 997, 998]
        self.assertEqual(parts, [(number, energies[number]) for number in expected])


class Places(CallCase):
    def place(self, hits):
        return found_clusters(hits)[0][3:5]

    def test_a_seed_alone(self):
        self.assertEqual(self.place({at(0, 0): 10}), [0, 0])
        self.assertEqual(self.place({at(31, 31): 10}), [1984, 1984])
        self.assertEqual(self.place({at(7, 20): 10}), [1280, 448])

    def test_column(self):
        # 64 * 10 / 40 = 16 either way.
        self.assertEqual(self.place({at(5, 5): 30, at(5, 6): 10}), [336, 320])
        self.assertEqual(self.place({at(5, 5): 30, at(5, 4): 10}), [304, 320])

    def test_row(self):
        self.assertEqual(self.place({at(5, 5): 30, at(6, 5): 10}), [320, 336])
        self.assertEqual(self.place({at(5, 5): 30, at(4, 5): 10}), [320, 304])

    def test_diagonal(self):
        self.assertEqual(self.place({at(5, 5): 30, at(6, 4): 10}), [304, 336])

    def test_row_across_the_cycle(self):
        self.assertEqual(self.place({at(0, 5): 30, at(31, 5): 10}), [320, 2032])
        self.assertEqual(self.place({at(31, 5): 30, at(0, 5): 10}), [320, 2000])
        self.assertEqual(self.place({at(31, 5): 30, at(30, 5): 10}), [320, 1968])
        self.assertEqual(self.place({at(0, 5): 30, at(1, 5): 10}), [320, 16])

    def test_row_just_below_zero(self):
        # 64 / 128 is half, which rounds up to 0; 64 * 2 / 129 is nearer to 1.
        self.assertEqual(self.place({at(0, 5): 127, at(31, 5): 1}), [320, 0])
        self.assertEqual(self.place({at(0, 5): 127, at(31, 5): 2}), [320, 2047])

    def test_column_below_zero_steps_from_the_last(self):
        self.assertEqual(self.place({at(5, 31): 30, at(5, 30): 10}), [1968, 320])
        self.assertEqual(self.place({at(5, 0): 30, at(5, 1): 10}), [16, 320])

    def test_rounded_to_nearest(self):
        # 64 * 1 / 128 is half: up, also where it is negative.
        self.assertEqual(self.place({at(5, 5): 127, at(5, 6): 1}), [321, 320])
        self.assertEqual(self.place({at(5, 5): 127, at(5, 4): 1}), [320, 320])
        self.assertEqual(self.place({at(5, 5): 127, at(6, 5): 1}), [320, 321])
        self.assertEqual(self.place({at(5, 5): 127, at(4, 5): 1}), [320, 320])
        # 64 * 3 / 128 = 1.5
        self.assertEqual(self.place({at(5, 5): 125, at(5, 4): 3}), [319, 320])
        self.assertEqual(self.place({at(5, 5): 125, at(5, 6): 3}), [322, 320])

    def test_shares_make_the_place_not_whole_blocks(self):
        found = found_clusters({at(4, 4): 10, at(4, 6): 20, at(4, 5): 9})
        self.assertEqual([answer[3] for answer in found], [256 + 15, 384 - 15])

    def test_parts_on_both_sides(self):
        self.assertEqual(self.place({at(0, 5): 30, at(31, 4): 10, at(1, 5): 5, at(0, 6): 5}), [314, 2042])


class TimesAndFull(CallCase):
    def test_time_is_weighed_with_the_energies(self):
        # Times 2 and 10: (512 * 2 + 256 * 10) / 768 = 4.67
        calls = [begin(), PLAIN_WEIGHTS, hit(40, 512, 4), hit(41, 256, 10), FIND, cluster(0)]
        self.assert_last([2, 40, 768, 533, 64, 5, 0], *calls)

    def test_time_rounded_to_nearest(self):
        for late, expected in ((1, 1), (3, 2), (4, 2)):
            calls = [begin(), PLAIN_WEIGHTS, hit(40, 256, late), hit(41, 256, 0), FIND, cluster(0)]
            self.assertEqual(last(*calls)[5], expected)

    def test_negative_time_rounded_to_nearest(self):
        backward = weights([1] * 7 + [0], [0] * 7 + [-1])
        for late, expected in ((1, 0), (3, -1), (4, -2)):
            calls = [begin(), backward, hit(40, 256, late), hit(41, 256, 0), FIND, cluster(0)]
            self.assertEqual(last(*calls)[5], expected)

    def test_least_and_greatest_time(self):
        for v, expected in ((32767, 32767), (-32768, -32768)):
            calls = [begin(), weights([1] * 8, [v] * 8), hit(40, 9), hit(41, 8), FIND, cluster(0)]
            self.assertEqual(last(*calls)[5], expected)

    def test_shares_weigh_the_time(self):
        calls = [begin(), PLAIN_WEIGHTS, hit(40, 256, 0), hit(42, 512, 0), hit(41, 192, 192), FIND]
        # 41 has time 256; its parts are 64 and 128.
        found = ask(*calls, cluster(0), cluster(1))[6:]
        self.assertEqual([answer[5] for answer in found], [51, 51])
        self.assertEqual([answer[2] for answer in found], [320, 640])

    def test_full_by_any_block(self):
        for full in (40, 41):
            calls = [begin(), PLAIN_WEIGHTS, hit(40, 4999), hit(41, 4998)]
            calls += [pulse(full, first(4095)), FIND, cluster(0)]
            self.assertEqual(last(*calls)[6], 1)
        self.assertEqual(last(begin(), PLAIN_WEIGHTS, hit(40, 4999), hit(41, 4998), FIND, cluster(0))[6], 0)

    def test_full_of_a_block_that_does_not_belong(self):
        unfull = [begin(10, 5), weights([1] * 7 + [0], [0] * 8), hit(40, 20)]
        self.assertEqual(last(*unfull, pulse(41, [4] + [0] * 6 + [4095]), FIND, cluster(0))[6], 0)
        self.assertEqual(last(*unfull, pulse(41, [5] + [0] * 6 + [4095]), FIND, cluster(0))[6], 1)

    def test_full_by_a_part_of_no_energy(self):
        calls = [begin(10, 1), weights([1] * 7 + [0], [0] * 8), hit(40, 10), hit(42, 20)]
        found = ask(*calls, pulse(41, [1] + [0] * 6 + [4095]), FIND, cluster(0), cluster(1))[6:]
        self.assertEqual(found, [[2, 40, 10, 512, 64, 0, 1], [2, 42, 21, 637, 64, 0, 1]])

    def test_time_and_full_as_they_are_at_the_query(self):
        calls = [begin(), PLAIN_WEIGHTS, hit(40, 512, 4), hit(41, 256, 10), FIND]
        # The energies stay 512 and 256 in the cluster; the times become 2 and 0, 2 and 1000, 20 and 1000.
        calls += [pulse(41, first(4095, 1))]
        self.assertEqual(last(*calls, cluster(0)), [2, 40, 768, 533, 64, 1, 1])
        calls += [hit(41, 512, 2000)]
        self.assertEqual(last(*calls, cluster(0)), [2, 40, 768, 533, 64, 335, 0])
        calls += [hit(40, 1024, 80)]
        self.assertEqual(last(*calls, cluster(0)), [2, 40, 768, 533, 64, 347, 0])

    def test_blocks_without_energy_now(self):
        calls = [begin(), PLAIN_WEIGHTS, hit(40, 512, 4), hit(41, 256, 10), FIND]
        calls += [hit(40, 0), hit(41, 0)]
        self.assert_last([2, 40, 768, 533, 64, 0, 0], *calls, cluster(0))

    def test_a_block_beside_changes_nothing(self):
        calls = [begin(), PLAIN_WEIGHTS, hit(40, 512, 4), FIND, hit(41, 4000, 4000), hit(8, 600), cluster(0)]
        self.assert_last([1, 40, 512, 512, 64, 2, 0], *calls)


class Numbering(CallCase):
    def test_no_such_cluster(self):
        calls = [begin(), hit(40, 5), hit(90, 6), FIND]
        self.assert_refused_around(cluster, 0, 1, calls)

    def test_no_cluster_before_they_are_found(self):
        self.assertEqual(ask(begin(), hit(40, 5), cluster(0), cluster(-1)), [[0], [1], [-2], [-2]])

    def test_none_found(self):
        self.assertEqual(ask(begin(), FIND, cluster(0), cluster(-1))[1:], [[0], [-2], [-2]])

    def test_refused_query_changes_nothing(self):
        found = ask(begin(), hit(40, 5), FIND, cluster(0), cluster(1), cluster(0))
        self.assertEqual(found[3], found[5])

    def test_found_again(self):
        calls = [begin(), hit(40, 5), hit(90, 6), FIND, hit(40, 0), hit(91, 1)]
        self.assertEqual(ask(*calls, cluster(0), cluster(1))[6:], [[1, 40, 5, 512, 64, 0, 0], [1, 90, 6, 1664, 128, 0, 0]])
        found = ask(*calls, FIND, cluster(0), cluster(1))[6:]
        self.assertEqual(found, [[1], [2, 90, 7, 1673, 128, 0, 0], [-2]])

    def test_finding_does_not_change_blocks(self):
        calls = [begin(), PLAIN_WEIGHTS, hit(40, 512, 4), hit(41, 256, 10), FIND, cluster(0)]
        self.assertEqual(ask(*calls, block(40), block(41))[6:], [[0, 512, 2, 0], [0, 256, 10, 0]])
        self.assertEqual(ask(*calls, FIND, cluster(0))[5:], [last(*calls), [1], last(*calls)])

    def test_clusters_use_the_settings_only(self):
        calls = [begin(), hit(40, 5), FIND, gain(0, 7), weights([0] * 8, [0] * 8), cluster(0), FIND, cluster(0)]
        self.assertEqual(ask(*calls)[5:], [[1, 40, 5, 512, 64, 0, 0], [1], [1, 40, 5, 512, 64, 0, 0]])


class AgainstTheModel(CallCase):
    """Made-up blocks, compared with the model, and held to the requirements."""

    def check(self, numbers, blocks, greatest):
        """A list of calls with hits on some of these blocks, with energies from 0 to greatest."""
        low = 1 + numbers.below(3)
        seed = low + numbers.below(4)
        energies, times, fulls = [0] * 1024, [0] * 1024, [0] * 1024
        calls = [begin(seed, low), weights([1] * 6 + [0, 0], [0] * 6 + [1, -1])]
        for _ in range(55):
            number = blocks[numbers.below(len(blocks))]
            energy = numbers.below(greatest + 1)
            late, early = numbers.below(30), numbers.below(30)
            early = 4095 if numbers.below(9) == 0 else early
            energies[number] = energy
            times[number] = model.rounded(model.Fraction(256 * (late - early), energy)) if energy else 0
            times[number] = min(max(times[number], -32768), 32767)
            fulls[number] = 1 if early == 4095 else 0
            calls.append(pulse(number, [energy, 0, 0, 0, 0, 0, late, early]))
        expected = model.cluster_answers(energies, times, fulls, seed, low)
        calls.append(FIND)
        found = ask(*calls, *[cluster(number) for number in range(22)])[len(calls) - 1:]
        self.assertEqual(found[0], [len(expected)])
        self.assertEqual(found[1:], (expected + [[-2]] * 22)[:22])

    def test_answers(self):
        numbers = Numbers(1)
        wide = list(range(1024))
        corner = [at(row, column) for row in range(-3, 3) for column in range(0, 6)]
        edge = [at(row, column) for row in range(-4, 4) for column in range(27, 32)]
        middle = [at(row, column) for row in range(10, 16) for column in range(10, 17)]
        for blocks in (corner, edge, middle, wide):
            for greatest in (2, 5, 12, 300):
                for _ in range(4):
                    self.check(numbers, blocks, greatest)

    def held_to_requirements(self, energies, seed, low):
        found = clusters_of(energies, seed, low)
        parts = {}
        for one in found:
            self.assertGreater(one.energy, 0)
            self.assertEqual(one.energy, sum([energy for _, energy in one.parts]))
            self.assertEqual(one.parts, sorted(one.parts))
            self.assertLessEqual(abs(one.column - 64 * (one.seed % 32)), 64)
            self.assertLessEqual((one.row - 64 * (one.seed // 32) + 64) % 2048, 128)
            for number, energy in one.parts:
                self.assertGreaterEqual(energy, 0)
                parts[number] = parts.get(number, 0) + energy
        for number in parts:
            self.assertEqual(parts[number], energies[number])
        outside = sum([energies[number] for number in range(1024) if number not in parts])
        self.assertEqual(sum([one.energy for one in found]) + outside, sum(energies))
        taken = [one.seed for one in found]
        self.assertEqual(taken, sorted(taken))
        for one in taken:
            self.assertFalse([other for other in neighbours(one) if other in taken])
        return found

    def test_requirements_on_full_grids(self):
        numbers = Numbers(2)
        for greatest in (1, 3, 20, 1000, TOP):
            energies = [numbers.below(greatest + 1) for _ in range(1024)]
            for seed, low in ((1, 1), (greatest, 1), (greatest, greatest), ((greatest + 1) // 2, 1)):
                found = self.held_to_requirements(energies, seed, low)
                expected = model.parts_of(energies, seed, low)
                self.assertEqual({one.seed: one.parts for one in found}, expected)

    def test_most_clusters(self):
        energies = [5 if number % 2 == 0 and number // 32 % 2 == 0 else 3 for number in range(1024)]
        self.assertEqual(len(self.held_to_requirements(energies, 4, 1)), 256)


if __name__ == "__main__":
    unittest.main()
