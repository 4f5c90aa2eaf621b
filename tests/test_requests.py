"""Whole lists of calls: against the model, and held to the requirements of the document."""

import unittest

from jetblocks.calorimeter import answers
from tests import model
from tests.drawn import Drawing
from tests.helper import (
    CLEAR, FAR, FIND, JETS, MOST_CALLS, PLAIN_WEIGHTS, SUMS, CallCase, Numbers, ask, ask_in_pieces, at, begin, block,
    cluster, flat, gain, hit, jet, last, parts, pulse, take_apart, weights, window,
)
from tests.model_session import ModelSession

WINDOWS = ((1, 1), (2, 1), (1, 2), (3, 3), (32, 1), (1, 32), (32, 32), (5, 30), (31, 2))

# One of each call but open, after which each of them has something to answer.
EACH_CALL = [
    gain(1, 2, 1, 1), weights([1] * 8, [0] * 7 + [1]), pulse(40, [5] * 8, 1), block(40), FIND, cluster(0), parts(0), JETS,
    jet(0), SUMS, window(2, 2), CLEAR,
]


class AgainstTheModel(CallCase):
    def test_drawn_lists(self):
        drawing = Drawing(Numbers(9))
        answered = {}
        for _ in range(160):
            calls = drawing.calls(MOST_CALLS)
            session = ModelSession()
            expected = [session.answer(call) for call in calls]
            found = ask(*calls)
            for place in range(MOST_CALLS):
                self.assertEqual(found[place], expected[place], calls[:place + 1])
                outcome = (calls[place][0], min(found[place][0], 0))
                answered[outcome] = answered.get(outcome, 0) + 1
        # Each call is answered often, and refused often where it can be.
        for number in range(1, 14):
            self.assertGreater(answered[(number, 0)], 20)
            if number in (1, 2, 3, 4, 5, 7, 8, 10, 12):
                self.assertGreater(answered[(number, -2)], 3, number)


class Found:
    """What is answered about the clusters and jets behind a list of calls that ends with FIND, JETS."""

    def __init__(self, calls, sizes):
        self.sizes = sizes
        told = ask(*calls)
        self.reach = [call[3] for call, answer in zip(calls, told) if call[0] == 1 and answer == [0]][-1]
        clusters, jets = told[-2][0], told[-1][0]
        pulsed = sorted({call[1] for call in calls if call[0] == 4 and 0 <= call[1] < 1024})
        queries = [SUMS] + [window(*size) for size in sizes]
        queries += [block(number) for number in pulsed]
        queries += [cluster(number) for number in range(clusters)] + [parts(number) for number in range(clusters)]
        queries += [jet(number) for number in range(jets)]
        told = ask_in_pieces(calls, queries)
        self.sums = told.pop(0)
        self.windows = [told.pop(0) for _ in sizes]
        self.energies = [0] * 1024
        for number in pulsed:
            self.energies[number] = told.pop(0)[1]
        self.clusters = [told.pop(0) for _ in range(clusters)]
        self.parts = [told.pop(0) for _ in range(clusters)]
        self.jets = told

    def pairs(self, number):
        return list(zip(self.parts[number][1::2], self.parts[number][2::2]))


class Requirements(CallCase):
    @classmethod
    def setUpClass(cls):
        drawing = Drawing(Numbers(10))
        cls.found = []
        while len(cls.found) < 150:
            calls = drawing.calls(50)
            if calls[0][0] == 1:
                start = 3 * (len(cls.found) % 3)
                cls.found.append(Found(calls + [FIND, JETS], WINDOWS[start:start + 3]))

    def test_enough_was_drawn(self):
        counts = [len(found.clusters) for found in self.found]
        self.assertGreater(max(counts), 15)
        self.assertGreater(len([count for count in counts if count > 3]), 50)
        self.assertGreater(len([found for found in self.found if 1 < len(found.jets) < len(found.clusters)]), 20)
        divided = [found for found in self.found if sum(map(len, found.parts)) > 1 + 2 * len(set(
            number for parts_told in found.parts for number in parts_told[1::2]
        )) + len(found.parts)]
        self.assertGreater(len(divided), 10)

    def test_1_energies_add_up(self):
        for found in self.found:
            belonging = {number for listed in found.parts for number in listed[1::2]}
            others = sum([energy for number, energy in enumerate(found.energies) if number not in belonging])
            inside = sum([told[2] for told in found.clusters])
            self.assertEqual(inside + others, sum(found.energies))
            self.assertEqual(found.sums, [0, sum(found.energies), inside, others])

    def test_2_parts_of_a_block_add_up(self):
        for found in self.found:
            totals = {}
            for number in range(len(found.clusters)):
                for one, energy in found.pairs(number):
                    self.assertGreaterEqual(energy, 0)
                    totals[one] = totals.get(one, 0) + energy
            self.assertEqual(totals, {one: found.energies[one] for one in totals})

    def test_3_seeds_are_no_neighbours(self):
        for found in self.found:
            seeds = [told[1] for told in found.clusters]
            self.assertEqual(seeds, sorted(set(seeds)))
            self.assertFalse([(one, other) for one in seeds for other in seeds if model.near(one, other)])

    def test_4_each_cluster_belongs_to_one_jet(self):
        for found in self.found:
            listed = [number for told in found.jets for number in told[4:]]
            self.assertEqual(sorted(listed), list(range(len(found.clusters))))
            self.assertEqual(sum([told[1] for told in found.jets]), sum([told[2] for told in found.clusters]))
            for told in found.jets:
                self.assertEqual((told[0], told[4:]), (len(told[4:]), sorted(told[4:])))
                self.assertEqual(told[1], sum([found.clusters[number][2] for number in told[4:]]))
            energies = [told[1] for told in found.jets]
            self.assertEqual(energies, sorted(energies, reverse=True))

    def test_5_jets_are_apart(self):
        for found in self.found:
            for place, one in enumerate(found.jets):
                for other in found.jets[:place]:
                    apart = model.squared_distance(one[1:4], other[1:4])
                    self.assertGreaterEqual(apart, found.reach ** 2)

    def test_6_no_window_has_more(self):
        for found in self.found:
            for size, told in zip(found.sizes, found.windows):
                energies = model.window_energies(found.energies, *size)
                self.assertEqual(told[1], max(energies.values()))
                self.assertEqual(energies[told[0]], told[1])

    def test_7_clusters_lie_at_their_seeds(self):
        for found in self.found:
            for number, told in enumerate(found.clusters):
                self.assertGreater(told[2], 0)
                self.assertEqual(told[2], sum([energy for _, energy in found.pairs(number)]))
                self.assertEqual(told[0], len(found.pairs(number)))
                self.assertLessEqual(abs(told[3] - 64 * (told[1] % 32)), 64)
                self.assertIn((told[4] - 64 * (told[1] // 32)) % 2048, list(range(65)) + list(range(1984, 2048)))
                self.assertTrue(0 <= told[4] < 2048)


class EachCall(CallCase):
    def test_none_is_answered_before_open(self):
        self.assertEqual(ask(*EACH_CALL), [[-7]] * len(EACH_CALL))
        for call in EACH_CALL:
            self.assertEqual(ask(call, begin(), call)[0], [-7])

    def test_all_are_answered_behind_open(self):
        self.assertEqual(ask(begin(), *EACH_CALL)[1:], [
            [0], [0], [1], [0, 32, 32, 0], [1], [1, 40, 32, 512, 64, 32, 0], [1, 40, 32], [1], [1, 32, 512, 64, 0],
            [0, 32, 32, 0], [7, 32], [0],
        ])

    def test_the_form_of_the_answers(self):
        calls = flat([begin(10, 1, 200), hit(132, 10), hit(134, 20), hit(133, 8), FIND, parts(1), parts(2), JETS, jet(0)])
        calls += flat([jet(1), SUMS, window(2, 1), window(0, 1), CLEAR])
        self.assertEqual(answers(calls), [
            1, 0, 1, 1, 1, 1, 1, 1, 1, 2, 5, 2, 133, 6, 134, 20, 1, -2, 1, 1, 6, 2, 38, 369, 256, 0, 1, 1, -2, 4, 0, 38,
            38, 0, 2, 133, 28, 1, -2, 1, 0,
        ])

    def test_refused_calls_change_nothing(self):
        before = [begin(10, 1, 200), PLAIN_WEIGHTS, gain(1, 3), hit(132, 10), hit(134, 20), hit(133, 8), FIND, JETS]
        after = [
            block(132), block(133), cluster(0), cluster(1), parts(0), parts(1), jet(0), jet(1), SUMS, window(2, 2),
            pulse(300, [9] * 8, 1), block(300), FIND, JETS, jet(0), jet(1), jet(2),
        ]
        expected = ask(*before, *after)[len(before):]
        refused = [
            begin(0, 0), begin(1, 2), begin(1, 1, 0), gain(1, 0), gain(4, 5), weights([32768] * 8, [0] * 8),
            pulse(132, [4096] * 8), pulse(1024, [1] * 8), pulse(132, [1] * 8, 4), block(-1), cluster(2), parts(2), jet(1),
            window(0, 1), window(1, 33), window(FAR, -FAR),
        ]
        for call in refused:
            self.assertEqual(ask(*before, call, *after)[len(before):], [[-2]] + expected)
        self.assertEqual(ask(*before, *refused, *after)[len(before) + len(refused):], expected)


class Lists(CallCase):
    def test_eighty_calls(self):
        for call in EACH_CALL:
            found = ask(begin(), *[call] * 79)
            self.assertEqual(len(found), 80)
            self.assertEqual(found[1:], [found[1]] * 79)
            self.assertEqual(ask(*[call] * 80), [[-7]] * 80)
        self.assertEqual(ask(*[begin()] * 80), [[0]] * 80)

    def test_eighty_calls_with_as_many_jets_as_can_be(self):
        calls = [begin(1, 1, 128)] + [hit(at(2 * (n // 16), 2 * (n % 16)), 5 + n % 3) for n in range(76)]
        calls += [FIND, JETS, jet(75)]
        self.assertEqual(len(calls), MOST_CALLS)
        self.assertEqual(ask(*calls)[-3:], [[76], [76], [1, 5, 1408, 512, 75]])

    def test_one_call(self):
        self.assertEqual(answers([9]), [1, -7])
        self.assertEqual(answers([1, 1, 1, 1]), [1, 0])

    def test_what_is_handed_in_is_not_changed(self):
        calls = flat([begin()] + EACH_CALL[:-1] + [jet(9), window(0, 0), CLEAR])
        handed_in = list(calls)
        answers(handed_in)
        self.assertEqual(handed_in, calls)

    def test_nothing_is_kept_from_one_list_to_another(self):
        calls = flat([begin()] + EACH_CALL[:-1])
        once = answers(calls)
        self.assertEqual(ask(*EACH_CALL), [[-7]] * len(EACH_CALL))
        queries = [block(40), cluster(0), parts(0), jet(0), SUMS, window(1, 1), JETS, FIND]
        expected = [[0, 0, 0, 0], [-2], [-2], [-2], [0, 0, 0, 0], [0, 0], [0], [0]]
        self.assertEqual(ask(begin(), *queries)[1:], expected)
        self.assertEqual(answers(calls), once)
        self.assert_last([0, 40, 0, 0], begin(), pulse(40, [5] * 8, 1), block(40))

    def test_an_answer_is_a_list_of_its_own(self):
        calls = flat([begin()] + EACH_CALL[:-1])
        once = answers(calls)
        copy = list(once)
        once.clear()
        self.assertEqual(answers(calls), copy)
        self.assertEqual(len(take_apart(copy)), len(EACH_CALL))

    def test_jets_asked_twice_are_the_same(self):
        calls = [begin(), hit(40, 9), hit(42, 9), FIND, JETS]
        self.assertEqual(last(*calls, jet(0), jet(1), jet(0)), last(*calls, jet(0)))


if __name__ == "__main__":
    unittest.main()
