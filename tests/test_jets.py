"""The calls find_jets and jet."""

import unittest

from jetblocks.jets import Pseudojet, jets_of, squared_distance
from tests import model
from tests.helper import (
    CLEAR, FIND, JETS, PLAIN_WEIGHTS, STRONG_WEIGHTS, SUMS, TOP, CallCase, Numbers, ask, ask_in_pieces, at, begin, block,
    cluster, gain, hit, jet, last, parts, strong_hit, weights, window,
)

# Whole numbers whose quotient is as near to the root of 2 as can be: GREATER ** 2 - 2 * LESSER ** 2 is -1 or 1.
JUST_BELOW_ROOT = (367296043199, 259717522849)
JUST_ABOVE_ROOT = (886731088897, 627013566048)


def hit_calls(hits, reach):
    """Clusters of blocks with these energies; hits is a dict from block to energy."""
    return [begin(1, 1, reach), PLAIN_WEIGHTS] + [hit(number, energy) for number, energy in hits.items()] + [FIND]


def jets_behind(calls):
    """What the call jet answers, for each jet, when these calls have been made."""
    count = last(*calls, JETS)[0]
    return ask_in_pieces(calls + [JETS], [jet(number) for number in range(count)])


def found_jets(hits, reach):
    return jets_behind(hit_calls(hits, reach))


def lists(hits, reach):
    """The clusters of each jet."""
    return [answer[4:] for answer in found_jets(hits, reach)]


class Single(CallCase):
    def test_no_cluster(self):
        self.assertEqual(ask(begin(), JETS, FIND, JETS)[1:], [[0], [0], [0]])
        self.assertEqual(ask(begin(10, 1), hit(40, 9), FIND, JETS)[2:], [[0], [0]])

    def test_clusters_are_not_found_by_the_way(self):
        self.assertEqual(ask(begin(), hit(40, 9), JETS, FIND, JETS)[2:], [[0], [1], [1]])

    def test_one(self):
        self.assertEqual(found_jets({at(3, 5): 9}, 64), [[1, 9, 320, 192, 0]])
        self.assertEqual(found_jets({at(3, 5): 9}, 1), [[1, 9, 320, 192, 0]])
        self.assertEqual(found_jets({at(31, 31): 9}, 1024), [[1, 9, 1984, 1984, 0]])

    def test_place_and_energy_of_the_cluster(self):
        calls = hit_calls({at(0, 5): 30, at(31, 5): 10, at(0, 6): 10}, 64)
        told = last(*calls, cluster(0))
        self.assertEqual(told[2:5], [50, 333, 2035])
        self.assertEqual(jets_behind(calls), [[1, 50, 333, 2035, 0]])


class Reach(CallCase):
    """Two clusters just nearer than reach, at reach, and just farther."""

    def assert_nearest_reach(self, one, other, reach):
        """Two blocks are joined from this reach on, and not with any smaller one."""
        for energies in ((50, 30), (30, 50), (40, 40)):
            hits = dict(zip((one, other), energies))
            self.assertEqual(lists(hits, reach), [[0, 1]])
            apart = found_jets(hits, reach - 1)
            self.assertEqual([answer[:2] for answer in apart], [[1, energy] for energy in sorted(energies)[::-1]])

    def test_columns(self):
        self.assert_nearest_reach(at(4, 4), at(4, 6), 129)
        self.assert_nearest_reach(at(4, 16), at(4, 31), 961)
        self.assertEqual(lists({at(4, 15): 5, at(4, 31): 5}, 1024), [[0], [1]])

    def test_rows(self):
        self.assert_nearest_reach(at(4, 4), at(6, 4), 129)
        self.assert_nearest_reach(at(16, 4), at(31, 4), 961)
        self.assertEqual(lists({at(15, 4): 5, at(31, 4): 5}, 1024), [[0], [1]])

    def test_both(self):
        # 128 ** 2 + 128 ** 2 is between 181 ** 2 and 182 ** 2; 192 ** 2 + 256 ** 2 is 320 ** 2.
        self.assert_nearest_reach(at(4, 4), at(6, 6), 182)
        self.assert_nearest_reach(at(4, 6), at(6, 4), 182)
        self.assert_nearest_reach(at(4, 4), at(7, 8), 321)
        self.assert_nearest_reach(at(4, 8), at(8, 5), 321)

    def test_rows_across_the_cycle(self):
        self.assert_nearest_reach(at(0, 4), at(30, 4), 129)
        self.assert_nearest_reach(at(1, 4), at(31, 4), 129)
        self.assert_nearest_reach(at(1, 4), at(31, 6), 182)
        self.assert_nearest_reach(at(0, 4), at(17, 4), 961)
        self.assert_nearest_reach(at(0, 4), at(15, 4), 961)
        self.assertEqual(lists({at(0, 4): 5, at(16, 4): 5}, 1024), [[0], [1]])

    def test_columns_are_no_cycle(self):
        self.assertEqual(lists({at(4, 0): 5, at(4, 31): 5}, 1024), [[0], [1]])
        self.assertEqual(lists({at(4, 0): 5, at(4, 30): 5}, 1024), [[0], [1]])
        self.assertEqual(lists({at(4, 1): 5, at(4, 31): 5, at(31, 0): 5}, 1024), [[0, 2], [1]])

    def test_places_between_blocks(self):
        # The place of the first is row 2032, that of the other one is row 128.
        hits = {at(0, 5): 30, at(31, 5): 10, at(2, 5): 20}
        self.assertEqual(lists(hits, 144), [[0], [1]])
        self.assertEqual(lists(hits, 145), [[0, 1]])

    def test_smallest_reach(self):
        self.assertEqual(lists({at(4, 4): 9, at(4, 6): 8, at(4, 8): 7}, 1), [[0], [1], [2]])

    def test_squared_distance(self):
        for one, other, expected in (
            ((0, 0), (0, 0), 0), ((0, 0), (3, 4), 25), ((3, 4), (0, 0), 25), ((0, 0), (0, 2047), 1), ((5, 2047), (5, 0), 1),
            ((0, 0), (0, 1024), 1024 ** 2), ((0, 0), (0, 1025), 1023 ** 2), ((0, 0), (0, 1023), 1023 ** 2),
            ((0, 1), (2047, 1), 2047 ** 2), ((2048, 1000), (0, 2000), 2048 ** 2 + 1000 ** 2),
            ((1, 100), (3, 2000), 4 + 148 ** 2),
        ):
            found = squared_distance(Pseudojet(1, *one, [0]), Pseudojet(1, *other, [1]))
            self.assertEqual(found, expected, (one, other))


class Joining(CallCase):
    def test_first_greater(self):
        self.assertEqual(found_jets({at(4, 4): 50, at(6, 5): 30}, 200), [[2, 80, 256, 256, 0, 1]])

    def test_second_greater(self):
        self.assertEqual(found_jets({at(4, 4): 30, at(6, 5): 50}, 200), [[2, 80, 320, 384, 0, 1]])

    def test_equal_energies(self):
        self.assertEqual(found_jets({at(4, 4): 50, at(6, 5): 50}, 200), [[2, 100, 256, 256, 0, 1]])

    def test_place_and_energy_of_clusters_not_of_seeds(self):
        # The second seed has less energy than the first one, but its cluster has more.
        hits = {at(4, 4): 50, at(6, 6): 40, at(6, 7): 30, at(7, 6): 10}
        self.assertEqual(found_jets(hits, 300), [[2, 130, 408, 392, 0, 1]])

    def test_two_pairs(self):
        hits = {at(4, 4): 50, at(4, 6): 30, at(20, 4): 20, at(20, 6): 70}
        self.assertEqual(found_jets(hits, 200), [[2, 90, 384, 1280, 2, 3], [2, 80, 256, 256, 0, 1]])

    def test_greatest_energy_joins_first(self):
        # The middle one is as near to the last as to the first; the last has more energy.
        self.assertEqual(lists({at(4, 4): 50, at(4, 6): 10, at(4, 8): 51}, 200), [[1, 2], [0]])
        self.assertEqual(lists({at(4, 4): 51, at(4, 6): 10, at(4, 8): 50}, 200), [[0, 1], [2]])

    def test_distance_counts_against_energy(self):
        # 128 / 50 is less than 192 / 70 and more than 192 / 76.
        self.assertEqual(lists({at(4, 4): 50, at(4, 6): 10, at(4, 9): 70}, 200), [[2], [0, 1]])
        self.assertEqual(lists({at(4, 4): 50, at(4, 6): 10, at(4, 9): 76}, 200), [[1, 2], [0]])

    def test_equal_measures_of_different_distances(self):
        # 128 / 50 = 192 / 75: of equal measures, the first pair.
        self.assertEqual(lists({at(4, 4): 50, at(4, 6): 10, at(4, 9): 75}, 200), [[2], [0, 1]])
        self.assertEqual(lists({at(4, 4): 75, at(4, 7): 10, at(4, 9): 50}, 200), [[0, 1], [2]])

    def test_the_lesser_energy_of_a_pair_does_not_matter(self):
        for lesser in (1, 10, 49):
            self.assertEqual(lists({at(4, 4): 50, at(4, 6): lesser, at(4, 8): 51}, 200), [[1, 2], [0]])

    def test_a_join_makes_further_joins_possible(self):
        # 0 and 3 become 160, which outdoes 1 at 2; without 0, 2 goes to 1.
        hits = {at(4, 10): 60, at(6, 5): 100, at(6, 7): 10, at(6, 10): 100}
        self.assertEqual(found_jets(hits, 200), [[3, 170, 640, 384, 0, 2, 3], [1, 100, 320, 384, 1]])
        hits.pop(at(4, 10))
        self.assertEqual(found_jets(hits, 200), [[2, 110, 320, 384, 0, 1], [1, 100, 640, 384, 2]])

    def test_a_join_moves_a_pseudojet_out_of_reach(self):
        # 1 goes to 2 and takes its place, which is too far from 0.
        self.assertEqual(lists({at(4, 4): 9, at(4, 6): 10, at(4, 8): 20}, 200), [[1, 2], [0]])
        # With 0 alone it is joined.
        self.assertEqual(lists({at(4, 4): 9, at(4, 6): 10}, 200), [[0, 1]])

    def test_a_row_of_many(self):
        # The last has the most: it takes its neighbour; the next two are left to each other, and so on.
        hits = {at(4, 2 * number): 10 + number for number in range(10)}
        self.assertEqual(lists(hits, 129), [[8, 9], [6, 7], [4, 5], [2, 3], [0, 1]])
        # With a longer reach each takes two neighbours: 9, 8, 7, and so on.
        self.assertEqual(lists(hits, 257), [[7, 8, 9], [4, 5, 6], [1, 2, 3], [0]])

    def test_one_takes_all(self):
        hits = {at(2 * row, 2 * column): 5 for row in range(3) for column in range(3)}
        hits[at(2, 2)] = 100
        self.assertEqual(found_jets(hits, 200), [[9, 140, 128, 128] + list(range(9))])

    def test_most_clusters(self):
        hits = {at(2 * (number // 16), 2 * (number % 16)): 5 for number in range(75)}
        self.assertEqual([answer[0] for answer in found_jets(hits, 128)], [1] * 75)
        found = found_jets(hits, 1024)
        self.assertEqual(sum([answer[1] for answer in found]), 375)
        self.assertEqual(sorted([one for answer in found for one in answer[4:]]), list(range(75)))


class Ties(CallCase):
    def test_finishing_in_order(self):
        # Of equal energies, the one that is finished first has the smaller number.
        hits = {at(4, 4): 20, at(4, 20): 20, at(14, 4): 30, at(14, 20): 20}
        self.assertEqual(lists(hits, 200), [[2], [0], [1], [3]])

    def test_a_joined_one_takes_the_place_of_the_first(self):
        # 0 and 2 become 50 like 1, and stand ahead of it.
        hits = {at(4, 4): 30, at(4, 20): 50, at(6, 4): 20}
        self.assertEqual(lists(hits, 250), [[0, 2], [1]])
        # Also where column and row are those of the second.
        hits = {at(4, 4): 20, at(4, 20): 50, at(6, 4): 30}
        self.assertEqual(found_jets(hits, 250), [[2, 50, 256, 384, 0, 2], [1, 50, 1280, 256, 1]])
        # Here 0 stands ahead of the joined one.
        hits = {at(2, 20): 50, at(4, 4): 30, at(6, 4): 20}
        self.assertEqual(lists(hits, 250), [[0], [1, 2]])

    def test_places_behind_a_removed_one(self):
        # 0 and 1 are joined; then 2 and 3 have the same energy and are finished in their order.
        hits = {at(4, 4): 90, at(4, 6): 20, at(4, 20): 50, at(14, 4): 50, at(14, 20): 50}
        self.assertEqual(lists(hits, 200), [[0, 1], [2], [3], [4]])

    def test_finishing_before_joining(self):
        # With reach 200, 128 / (200 * M) is 1 / 100 for M = 64: 2 is finished, then 0 and 1 are joined.
        self.assertEqual(lists({at(4, 4): 64, at(4, 6): 36, at(14, 20): 100}, 200), [[2], [0, 1]])
        # With a little more energy, or nearer by reach, they are joined first, and finished first by their place.
        self.assertEqual(lists({at(4, 4): 65, at(4, 6): 35, at(14, 20): 100}, 200), [[0, 1], [2]])
        self.assertEqual(lists({at(4, 4): 64, at(4, 6): 36, at(14, 20): 100}, 201), [[0, 1], [2]])
        self.assertEqual(lists({at(4, 4): 63, at(4, 6): 37, at(14, 20): 100}, 200), [[2], [0, 1]])

    def test_finished_first_though_later_in_order(self):
        # 60 and 40 are joined when 100 is finished already.
        self.assertEqual(lists({at(4, 4): 60, at(4, 6): 40, at(14, 20): 100}, 200), [[2], [0, 1]])
        self.assertEqual(lists({at(4, 4): 60, at(4, 6): 41, at(14, 20): 100}, 200), [[0, 1], [2]])

    def test_pairs_by_the_first_place(self):
        # 2 is as near to 0 as to 1.
        self.assertEqual(lists({at(4, 2): 50, at(4, 6): 50, at(6, 4): 10}, 200), [[0, 2], [1]])
        # 1 is as near to 0 as to 2.
        self.assertEqual(lists({at(4, 4): 50, at(4, 6): 10, at(4, 8): 50}, 200), [[0, 1], [2]])

    def test_pairs_by_the_second_place(self):
        # 0 is as near to 1 as to 2.
        hits = {at(4, 4): 10, at(6, 2): 50, at(6, 6): 50}
        self.assertEqual(found_jets(hits, 200), [[2, 60, 128, 384, 0, 1], [1, 50, 384, 384, 2]])

    def test_the_first_place_counts_before_the_second(self):
        # 0 with 3 and 1 with 2 have the same measure. 0 with 3 comes first, and then has more energy than 1.
        hits = {at(4, 10): 60, at(6, 5): 100, at(6, 7): 10, at(6, 10): 100}
        self.assertEqual(lists(hits, 200), [[0, 2, 3], [1]])
        # Just before it: with one more of energy, 1 takes 2 at once.
        hits[at(6, 5)] = 101
        self.assertEqual(lists(hits, 200), [[0, 3], [1, 2]])

    def test_rows_across_the_cycle(self):
        # 0 is as near to 1 as to 2.
        self.assertEqual(lists({at(0, 4): 10, at(2, 4): 50, at(30, 4): 50}, 200), [[0, 1], [2]])
        # In row 31, 2 is as near to 0 as to 1.
        self.assertEqual(lists({at(1, 4): 50, at(29, 4): 50, at(31, 4): 10}, 200), [[0, 2], [1]])


class Numbering(CallCase):
    def test_by_decreasing_energy(self):
        hits = {at(4, 4): 20, at(4, 20): 40, at(14, 4): 10, at(14, 20): 30}
        self.assertEqual([answer[1] for answer in found_jets(hits, 200)], [40, 30, 20, 10])
        self.assertEqual(lists(hits, 200), [[1], [3], [0], [2]])

    def test_not_by_the_order_of_finishing(self):
        # 2 is finished with 100; then 0 and 1 become 110.
        self.assertEqual(lists({at(4, 4): 55, at(4, 6): 55, at(14, 20): 100}, 129), [[0, 1], [2]])

    def test_clusters_in_increasing_order(self):
        # 2 is nearer to 0 than 1, and is joined before it.
        hits = {at(4, 4): 100, at(4, 7): 5, at(6, 4): 5}
        self.assertEqual(lists(hits, 200), [[0, 1, 2]])
        # The first to be joined with 0 is 2, then come 1, 4 and 3.
        hits = {at(4, 4): 100, at(4, 7): 5, at(6, 2): 30, at(6, 7): 5, at(7, 4): 5}
        self.assertEqual(lists(hits, 300), [[0, 1, 2, 3, 4]])

    def test_no_such_jet(self):
        calls = hit_calls({at(4, 4): 20, at(4, 20): 40, at(4, 22): 40, at(14, 4): 10}, 200)
        self.assertEqual(last(*calls), [4])
        self.assertEqual(last(*calls, JETS), [3])
        self.assert_refused_around(jet, 0, 2, calls + [JETS])
        self.assert_refused_around(jet, 0, 0, hit_calls({9: 9}, 200) + [JETS])

    def test_no_jets(self):
        found = hit_calls({9: 9}, 200)
        for calls in ([begin()], found, [begin(), JETS], [begin(), FIND, JETS], [begin(10, 1), hit(9, 9), FIND, JETS]):
            for number in (-1, 0, 1):
                self.assert_last([-2], *calls, jet(number))

    def test_a_refused_query_changes_nothing(self):
        calls = hit_calls({9: 9}, 200) + [JETS]
        self.assertEqual(ask(*calls, jet(1), jet(-1), jet(0))[len(calls):], [[-2], [-2], [1, 9, 576, 0, 0]])


class Lasting(CallCase):
    HITS = {at(4, 4): 50, at(4, 6): 30, at(20, 4): 20}

    def before(self):
        return hit_calls(self.HITS, 200) + [JETS]

    def test_gone_when_clusters_are_found(self):
        for number in (-1, 0, 1):
            self.assert_last([-2], *self.before(), FIND, jet(number))
        self.assertEqual(ask(*self.before(), FIND, JETS, jet(0))[-2:], [[2], [2, 80, 256, 256, 0, 1]])

    def test_gone_with_clear_and_open(self):
        for number in (-1, 0, 1):
            self.assert_last([-2], *self.before(), CLEAR, jet(number))
            self.assert_last([-2], *self.before(), begin(), jet(number))
        self.assert_last([0], *self.before(), CLEAR, JETS)
        self.assert_last([0], *self.before(), begin(), JETS)

    def test_other_calls_and_refused_ones_leave_them(self):
        kept = ask(*self.before(), jet(0), jet(1), jet(2))[-3:]
        self.assertEqual(kept, [[2, 80, 256, 256, 0, 1], [1, 20, 256, 1280, 2], [-2]])
        for calls in (
            [hit(at(4, 4), 0), hit(at(20, 4), 99), hit(at(4, 5), 70), hit(700, 1)],
            [gain(0, 5), weights([0] * 8, [0] * 8), SUMS, window(4, 4)],
            [begin(0, 0), begin(3, 4), begin(1, 1, 1025), window(0, 0), cluster(9), parts(-1), jet(5), block(1024)],
            [cluster(0), parts(0), jet(1), block(3)],
        ):
            self.assertEqual(ask(*self.before(), *calls, jet(0), jet(1), jet(2))[-3:], kept)

    def test_found_again_from_the_same_clusters(self):
        calls = self.before() + [hit(at(4, 4), 0), hit(at(20, 4), 99), hit(at(4, 20), 60), JETS]
        self.assertEqual(ask(*calls, jet(0), jet(1))[-3:], [[2], [2, 80, 256, 256, 0, 1], [1, 20, 256, 1280, 2]])
        calls += [FIND, JETS]
        self.assertEqual(ask(*calls, jet(0), jet(1), jet(2))[-5:], [
            [3], [3], [1, 99, 256, 1280, 2], [1, 60, 1280, 256, 1], [1, 30, 384, 256, 0],
        ])

    def test_found_jets_replace_the_former_ones(self):
        self.assertEqual(ask(*self.before(), JETS, JETS, jet(0), jet(1), jet(2))[-5:], [
            [2], [2], [2, 80, 256, 256, 0, 1], [1, 20, 256, 1280, 2], [-2],
        ])

    def test_clusters_stay(self):
        calls = hit_calls(self.HITS, 200)
        queries = [cluster(number) for number in range(4)] + [parts(number) for number in range(4)]
        self.assertEqual(ask(*calls, JETS, *queries)[-8:], ask(*calls, *queries)[-8:])

    def test_reach_is_that_of_the_last_open(self):
        calls = [begin(1, 1, 1024), begin(1, 1, 129), begin(1, 1, 2000)]
        calls += [hit(at(4, 4), 50), hit(at(4, 6), 30), hit(at(4, 9), 20), FIND, JETS]
        self.assertEqual(ask(*calls, jet(0), jet(1))[-3:], [[2], [2, 80, 256, 256, 0, 1], [1, 20, 576, 256, 2]])


class Exactness(CallCase):
    """Measures that a float would not tell apart."""

    def jets(self, hits, reach):
        calls = [begin(1, 1, reach), STRONG_WEIGHTS]
        for number, energy in hits.items():
            calls += strong_hit(number, energy)
        return jets_behind(calls + [FIND])

    def lists(self, hits, reach):
        return [answer[4:] for answer in self.jets(hits, reach)]

    def test_the_numbers(self):
        for (greater, lesser), expected in ((JUST_BELOW_ROOT, -1), (JUST_ABOVE_ROOT, 1)):
            self.assertEqual(greater ** 2 - 2 * lesser ** 2, expected)
            self.assertEqual(2 * 128 ** 2 / greater ** 2, 128 ** 2 / lesser ** 2)
            self.assertLess(greater, TOP)

    def test_two_pairs(self):
        # One is 128 from the lesser and 128 times the root of 2 from the greater.
        for (greater, lesser), to_greater in ((JUST_BELOW_ROOT, False), (JUST_ABOVE_ROOT, True)):
            hits = {at(4, 4): lesser, at(4, 6): 1000, at(6, 8): greater}
            self.assertEqual(self.lists(hits, 200), [[1, 2], [0]] if to_greater else [[2], [0, 1]])
            hits = {at(4, 4): greater, at(6, 6): 1000, at(6, 8): lesser}
            self.assertEqual(self.lists(hits, 200), [[0, 1], [2]] if to_greater else [[0], [1, 2]])

    def test_a_pair_and_a_finishing(self):
        # 0 and 1 become as much as 2. Joined ahead of its finishing, they are numbered first.
        for (greater, lesser), joined_first in ((JUST_BELOW_ROOT, True), (JUST_ABOVE_ROOT, False)):
            hits = {at(4, 4): lesser, at(6, 6): greater - lesser, at(20, 20): greater}
            found = self.jets(hits, 256)
            self.assertEqual([answer[1] for answer in found], [greater, greater])
            self.assertEqual([answer[4:] for answer in found], [[0, 1], [2]] if joined_first else [[2], [0, 1]])

    def test_energies_that_differ_by_one(self):
        self.assertEqual(self.lists({at(4, 4): TOP - 1, at(4, 20): TOP}, 200), [[1], [0]])
        self.assertEqual(self.lists({at(4, 4): TOP, at(4, 20): TOP}, 200), [[0], [1]])
        hits = {at(4, 4): TOP - 1, at(4, 6): 5, at(4, 8): TOP}
        self.assertEqual(self.lists(hits, 200), [[1, 2], [0]])
        hits = {at(4, 4): TOP - 1, at(6, 6): TOP}
        self.assertEqual(self.jets(hits, 200), [[2, 2 * TOP - 1, 384, 384, 0, 1]])

    def test_energies_beyond_those_of_one_block(self):
        big = 2 ** 62
        for extra, expected in ((0, [[0, 1], [2]]), (1, [[1, 2], [0]])):
            clusters = [Pseudojet(big, 0, 0, []), Pseudojet(1, 100, 0, []), Pseudojet(big + extra, 200, 0, [])]
            self.assertEqual([one.clusters for one in jets_of(clusters, 150)], expected)


class AgainstTheModel(CallCase):
    def test_drawn_clusters(self):
        numbers = Numbers(7)
        for turn in range(150):
            width = (3, 6, 16)[turn % 3]
            greatest = (1, 3, 20, 20000)[turn % 4]
            hits = {}
            for _ in range(2 + numbers.below(18)):
                row, column = 2 * numbers.below(width) - 4, 2 * numbers.below(width)
                hits[at(row, column)] = 1 + numbers.below(greatest)
            reach = (128, 129, 182, 200, 257, 320, 500, 1024)[numbers.below(8)]
            clusters = [(hits[number], 64 * (number % 32), 64 * (number // 32)) for number in sorted(hits)]
            expected = [[len(one[3]), one[0], one[1], one[2]] + sorted(one[3]) for one in model.jets_of(clusters, reach)]
            self.assertEqual(found_jets(hits, reach), expected)

    def test_drawn_pseudojets(self):
        numbers = Numbers(8)
        for turn in range(150):
            near = (4, 40, 400, 2048)[turn % 4]
            clusters = []
            for _ in range(1 + numbers.below(16)):
                energy = 1 + numbers.below((2, 10, TOP)[turn % 3])
                clusters.append((energy, numbers.below(near), (numbers.below(near) - 2) % 2048))
            reach = 1 + numbers.below((3, 30, 1024)[turn % 3])
            found = jets_of([Pseudojet(*one, []) for one in clusters], reach)
            expected = [one[:3] + (sorted(one[3]),) for one in model.jets_of(clusters, reach)]
            self.assertEqual([(one.energy, one.column, one.row, one.clusters) for one in found], expected)


if __name__ == "__main__":
    unittest.main()
