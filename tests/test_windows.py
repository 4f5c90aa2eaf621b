"""The call window."""

import unittest

from jetblocks.windows import greatest_window
from tests import model
from tests.helper import (
    FIND, PLAIN_WEIGHTS, SUMS, TOP, CallCase, Numbers, ask, at, begin, cluster, first, gain, hit, last, pulse, weights,
    window,
)


def hit_calls(hits):
    return [begin(), PLAIN_WEIGHTS] + [hit(number, energy) for number, energy in hits.items()]


def found_window(hits, width, height):
    return last(*hit_calls(hits), window(width, height))


class Ranges(CallCase):
    def test_width(self):
        self.assert_refused_around(lambda width: window(width, 1), 1, 32, [begin()])
        self.assert_refused_around(lambda width: window(width, 32), 1, 32, [begin()])

    def test_height(self):
        self.assert_refused_around(lambda height: window(1, height), 1, 32, [begin()])
        self.assert_refused_around(lambda height: window(32, height), 1, 32, [begin()])

    def test_a_refused_window_changes_nothing(self):
        calls = hit_calls({40: 10}) + [FIND]
        found = ask(*calls, window(0, 33), window(1, 1), cluster(0))[len(calls):]
        self.assertEqual(found, [[-2], [40, 10], [1, 40, 10, 512, 64, 0, 0]])


class Sizes(CallCase):
    def test_smallest(self):
        self.assertEqual(found_window({40: 10, 700: 11, 900: 9}, 1, 1), [700, 11])
        self.assertEqual(found_window({0: 3}, 1, 1), [0, 3])
        self.assertEqual(found_window({1023: 3}, 1, 1), [1023, 3])

    def test_greatest(self):
        self.assertEqual(found_window({40: 10, 700: 11, 1023: 9}, 32, 32), [0, 30])
        self.assertEqual(found_window({1023: 9}, 32, 32), [0, 9])

    def test_whole_rows(self):
        # Row 4 has the energy 1, row 5 has 20, row 20 has 15, and row 31 has 8.
        hits = {at(5, 0): 10, at(5, 31): 10, at(20, 7): 15, at(31, 3): 8, at(4, 9): 1}
        for height, row, energy in (
            (1, 5, 20), (2, 4, 21), (5, 1, 21), (6, 0, 21), (7, 31, 29), (15, 23, 29), (16, 5, 35), (17, 4, 36),
            (18, 20, 44), (20, 18, 44), (27, 11, 44), (28, 4, 44), (31, 1, 44), (32, 0, 44),
        ):
            self.assertEqual(found_window(hits, 32, height), [32 * row, energy])

    def test_whole_rows_of_each_height(self):
        numbers = Numbers(4)
        hits = {numbers.below(1024): numbers.below(500) for _ in range(60)}
        energies = [hits.get(number, 0) for number in range(1024)]
        for height in range(1, 33):
            found = model.window_energies(energies, 32, height)
            best = max(found.values())
            firsts = [number for number in sorted(found) if found[number] == best]
            self.assertEqual(found_window(hits, 32, height), [firsts[0], best])
            self.assertEqual(firsts[0] % 32, 0)

    def test_whole_columns_of_each_width(self):
        for width in range(1, 33):
            # All rows are in each window, so the first one is row 0.
            self.assertEqual(found_window({at(9, 20): 5, at(30, 20): 6}, width, 32), [max(21 - width, 0), 11])

    def test_width_and_height_are_not_exchanged(self):
        hits = {at(4, 4): 5, at(4, 6): 5, at(7, 4): 6}
        self.assertEqual(found_window(hits, 3, 1), [at(4, 4), 10])
        self.assertEqual(found_window(hits, 1, 4), [at(4, 4), 11])
        self.assertEqual(found_window(hits, 1, 3), [at(5, 4), 6])
        self.assertEqual(found_window(hits, 2, 1), [at(7, 3), 6])


class Edges(CallCase):
    def test_across_the_rows_cycle(self):
        self.assertEqual(found_window({at(31, 5): 10, at(0, 5): 9}, 1, 2), [at(31, 5), 19])
        self.assertEqual(found_window({at(30, 5): 10, at(1, 6): 9}, 2, 4), [at(30, 5), 19])
        self.assertEqual(found_window({at(30, 5): 10, at(1, 6): 9}, 2, 3), [at(28, 4), 10])

    def test_the_smallest_block_across_the_cycle(self):
        # Row 0 first, then row 1 also in windows that begin in row 31, but these have greater numbers.
        self.assertEqual(found_window({at(0, 5): 10}, 1, 2), [at(0, 5), 10])
        self.assertEqual(found_window({at(0, 5): 10}, 3, 3), [at(0, 3), 10])
        self.assertEqual(found_window({at(31, 5): 10}, 1, 2), [at(30, 5), 10])
        self.assertEqual(found_window({at(31, 5): 10}, 1, 31), [at(1, 5), 10])

    def test_touching_the_last_column(self):
        self.assertEqual(found_window({at(4, 31): 10, at(4, 30): 9}, 2, 1), [at(4, 30), 19])
        self.assertEqual(found_window({at(4, 31): 10}, 1, 1), [at(4, 31), 10])
        self.assertEqual(found_window({at(4, 31): 10}, 5, 1), [at(4, 27), 10])
        self.assertEqual(found_window({at(4, 31): 10}, 31, 1), [at(4, 1), 10])
        self.assertEqual(found_window({at(4, 31): 10}, 32, 1), [at(4, 0), 10])

    def test_not_beyond_the_last_column(self):
        self.assertEqual(found_window({at(4, 31): 10, at(4, 0): 9}, 2, 1), [at(4, 30), 10])
        self.assertEqual(found_window({at(4, 31): 10, at(5, 0): 9}, 2, 2), [at(3, 30), 10])
        self.assertEqual(found_window({at(4, 31): 10, at(5, 0): 9}, 31, 2), [at(3, 1), 10])
        self.assertEqual(found_window({at(4, 31): 10, at(4, 0): 9}, 32, 1), [at(4, 0), 19])

    def test_several_with_the_greatest_energy(self):
        self.assertEqual(found_window({900: 10, 40: 10, 500: 10}, 1, 1), [40, 10])
        self.assertEqual(found_window({at(9, 9): 10}, 4, 3), [at(7, 6), 10])
        self.assertEqual(found_window({at(9, 9): 10, at(20, 4): 6, at(21, 5): 4}, 2, 2), [at(8, 8), 10])

    def test_no_energy(self):
        for width, height in ((1, 1), (1, 32), (32, 1), (32, 32), (7, 9), (31, 31)):
            self.assertEqual(last(begin(), window(width, height)), [0, 0])
            self.assertEqual(found_window({500: 0}, width, height), [0, 0])

    def test_great_energies(self):
        calls = [begin(), gain(0, 2 ** 20), weights([1024] + [0] * 7, [0] * 8)]
        calls += [pulse(number, first(1024)) for number in range(100, 170)]
        self.assert_last([0, 70 * TOP], *calls, window(32, 32))
        self.assertEqual(greatest_window([TOP] * 1024, 32, 32), (0, 1024 * TOP))

    def test_present_blocks(self):
        calls = hit_calls({40: 10, 41: 5, 90: 8}) + [FIND, hit(40, 3), hit(90, 12)]
        self.assertEqual(ask(*calls, window(1, 1), window(2, 1))[len(calls):], [[90, 12], [89, 12]])

    def test_clusters_and_low_do_not_matter(self):
        calls = [begin(TOP, TOP), PLAIN_WEIGHTS, hit(40, 3), hit(41, 4)]
        self.assertEqual(ask(*calls, window(2, 1), cluster(0), SUMS)[4:], [[40, 7], [-2], [0, 7, 0, 7]])


class AgainstTheModel(CallCase):
    def test_drawn_blocks(self):
        numbers = Numbers(5)
        for turn in range(40):
            corner = numbers.below(2) == 0
            hits = {}
            for _ in range(3 + numbers.below(50)):
                row, column = numbers.below(32), numbers.below(32)
                number = at(row % 8 - 4, column % 8 + 24 * (turn % 2)) if corner else at(row, column)
                hits[number] = numbers.below(9)
            energies = [hits.get(number, 0) for number in range(1024)]
            sizes = [(1 + numbers.below(32), 1 + numbers.below(32)) for _ in range(6)]
            sizes += [(1 + numbers.below(4), 1 + numbers.below(4)) for _ in range(6)]
            calls = hit_calls(hits)
            answers = ask(*calls, *[window(*size) for size in sizes])[len(calls):]
            for size, (number, energy) in zip(sizes, answers):
                found = model.window_energies(energies, *size)
                best = max(found.values())
                self.assertEqual([number, energy], [min(one for one in found if found[one] == best), best], size)

    def test_full_grids(self):
        numbers = Numbers(6)
        for greatest in (1, 3, TOP):
            energies = [numbers.below(greatest + 1) for _ in range(1024)]
            for width, height in ((1, 1), (2, 2), (5, 3), (3, 5), (32, 7), (7, 32), (31, 31), (16, 16), (32, 32)):
                found = model.window_energies(energies, width, height)
                best = max(found.values())
                number = min(one for one in found if found[one] == best)
                self.assertEqual(greatest_window(energies, width, height), (number, best))


if __name__ == "__main__":
    unittest.main()
