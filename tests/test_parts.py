"""The call parts."""

import unittest

from tests.helper import (
    CLEAR, FIND, JETS, PLAIN_WEIGHTS, STRONG_WEIGHTS, SUMS, TOP, CallCase, ask, at, begin, block, cluster, hit, last,
    parts, strong_hit, window,
)


def calls_of(hits, seed=10, low=1):
    return [begin(seed, low), PLAIN_WEIGHTS] + [hit(number, energy) for number, energy in hits.items()] + [FIND]


def found_parts(hits, seed=10, low=1):
    """The parts of all clusters of blocks with these energies."""
    calls = calls_of(hits, seed, low)
    count = last(*calls)[0]
    return ask(*calls, *[parts(number) for number in range(count)])[len(calls):]


class Parts(CallCase):
    def test_a_seed_alone(self):
        self.assertEqual(found_parts({40: 10}), [[1, 40, 10]])
        self.assertEqual(found_parts({0: 10, 1023: 77}), [[1, 0, 10], [1, 1023, 77]])

    def test_order_of_the_blocks(self):
        # The seed stands among the others, and the blocks of row 31 stand last.
        hits = {5: 30, 998: 9, 996: 8, 38: 7, 36: 6, 997: 5, 37: 4, 6: 3, 4: 2}
        self.assertEqual(found_parts(hits), [[9, 4, 2, 5, 30, 6, 3, 36, 6, 37, 4, 38, 7, 996, 8, 997, 5, 998, 9]])

    def test_order_does_not_follow_the_pulses(self):
        one = found_parts({40: 10, 41: 3, 39: 4, 72: 5})
        self.assertEqual(one, [[4, 39, 4, 40, 10, 41, 3, 72, 5]])
        self.assertEqual(found_parts({72: 5, 41: 3, 40: 10, 39: 4}), one)

    def test_blocks_that_do_not_belong(self):
        self.assertEqual(found_parts({40: 10, 41: 3, 39: 4, 42: 3}, 10, 4), [[2, 39, 4, 40, 10]])
        self.assertEqual(found_parts({40: 10, 41: 6, 42: 5}, 10, 1), [[2, 40, 10, 41, 6]])
        # Across the columns' ends nothing is near.
        self.assertEqual(found_parts({32: 10, 31: 6, 63: 6}, 10, 1), [[1, 32, 10]])

    def test_divided_without_remainder(self):
        self.assertEqual(found_parts({132: 10, 134: 20, 133: 9}), [[2, 132, 10, 133, 3], [2, 133, 6, 134, 20]])

    def test_divided_with_remainder(self):
        # 8 * 10 / 30 = 2.67 and 8 * 20 / 30 = 5.33; the remainder 1 goes to the greater seed.
        self.assertEqual(found_parts({132: 10, 134: 20, 133: 8}), [[2, 132, 10, 133, 2], [2, 133, 6, 134, 20]])
        self.assertEqual(found_parts({132: 20, 134: 10, 133: 8}), [[2, 132, 20, 133, 6], [2, 133, 2, 134, 10]])

    def test_remainder_of_equal_seeds(self):
        self.assertEqual(found_parts({132: 10, 134: 10, 133: 7}), [[2, 132, 10, 133, 4], [2, 133, 3, 134, 10]])
        # Row 31 lies above row 0, but its blocks have the greater numbers.
        hits = {at(31, 5): 10, at(1, 5): 10, at(0, 5): 7}
        self.assertEqual(found_parts(hits), [[2, 5, 4, 37, 10], [2, 5, 3, 997, 10]])

    def test_divided_among_four(self):
        hits = {at(3, 3): 10, at(3, 5): 11, at(5, 3): 12, at(5, 5): 12, at(4, 4): 9}
        self.assertEqual(found_parts(hits), [
            [2, 99, 10, 132, 2], [2, 101, 11, 132, 2], [2, 132, 3, 163, 12], [2, 132, 2, 165, 12],
        ])
        hits = {at(3, 3): 10, at(3, 5): 10, at(5, 3): 10, at(5, 5): 10, at(4, 4): 7}
        self.assertEqual([found[-1] if found[1] == 132 else found[4] for found in found_parts(hits)], [4, 1, 10, 10])

    def test_a_part_of_no_energy(self):
        self.assertEqual(found_parts({132: 10, 134: 20, 133: 1}), [[2, 132, 10, 133, 0], [2, 133, 1, 134, 20]])

    def test_several_divided_blocks(self):
        hits = {132: 10, 134: 20, 101: 3, 133: 6, 165: 8}
        self.assertEqual(found_parts(hits), [
            [4, 101, 1, 132, 10, 133, 2, 165, 2], [4, 101, 2, 133, 4, 134, 20, 165, 6],
        ])

    def test_great_energies(self):
        calls = [begin(TOP - 1, 1), STRONG_WEIGHTS]
        calls += strong_hit(132, TOP) + strong_hit(134, TOP - 1) + strong_hit(133, TOP - 2) + [FIND]
        found = ask(*calls, parts(0), parts(1))[len(calls):]
        self.assertEqual(found, [[2, 132, TOP, 133, TOP // 2], [2, 133, TOP // 2 - 2, 134, TOP - 1]])

    def test_counts_and_sums_agree_with_cluster(self):
        calls = calls_of({132: 10, 134: 20, 133: 8, 165: 3, 164: 2, 600: 12, 601: 1})
        for number in range(3):
            told, listed = ask(*calls, cluster(number), parts(number))[len(calls):]
            self.assertEqual((told[0], told[2]), (listed[0], sum(listed[2::2])))
            self.assertEqual(len(listed), 1 + 2 * listed[0])


class WhenFound(CallCase):
    def test_later_pulses_do_not_change_them(self):
        calls = calls_of({132: 10, 134: 20, 133: 8})
        before = ask(*calls, parts(0), parts(1))[len(calls):]
        changes = [hit(132, 0), hit(133, 4000), hit(134, 3), hit(135, 9), hit(500, 9)]
        self.assertEqual(ask(*calls, *changes, parts(0), parts(1))[len(calls) + 5:], before)
        told = ask(*calls, *changes, cluster(0), cluster(1))[len(calls) + 5:]
        self.assertEqual([answer[:5] for answer in told], [[2, 132, 12, 267, 256], [2, 134, 26, 369, 256]])

    def test_found_again_they_change(self):
        calls = calls_of({132: 10, 134: 20, 133: 8}) + [hit(132, 0), hit(135, 9), FIND]
        self.assertEqual(ask(*calls, parts(0), parts(1))[len(calls) - 1:], [[1], [3, 133, 8, 134, 20, 135, 9], [-2]])

    def test_other_calls_do_not_change_them(self):
        calls = calls_of({132: 10, 134: 20, 133: 8})
        others = [JETS, SUMS, window(3, 3), cluster(0), block(133), parts(1)]
        self.assertEqual(last(*calls, *others, parts(0)), last(*calls, parts(0)))


class Numbering(CallCase):
    def test_no_such_cluster(self):
        calls = calls_of({40: 10, 90: 11, 140: 12})
        self.assert_refused_around(parts, 0, 2, calls)
        self.assert_refused_around(parts, 0, 0, calls_of({40: 10}))

    def test_no_clusters(self):
        for calls in (
            [begin()], [begin(), hit(40, 10)], [begin(), FIND], calls_of({40: 9}), calls_of({40: 10}) + [CLEAR],
            calls_of({40: 10}) + [begin()],
        ):
            for number in (-1, 0, 1):
                self.assert_last([-2], *calls, parts(number))

    def test_a_refused_query_changes_nothing(self):
        calls = calls_of({40: 10, 41: 3})
        self.assertEqual(ask(*calls, parts(1), parts(0))[len(calls):], [[-2], [2, 40, 10, 41, 3]])


if __name__ == "__main__":
    unittest.main()
