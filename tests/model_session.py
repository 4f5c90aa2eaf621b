"""All calls once more, on top of the model, to compare with."""

from fractions import Fraction
from math import floor

from tests import model
from tests.helper import TOP

LENGTHS = {1: 3, 2: 4, 3: 16, 4: 10, 5: 1, 6: 0, 7: 1, 8: 1, 9: 0, 10: 1, 11: 0, 12: 2, 13: 0}


class ModelSession:
    def __init__(self):
        self.opened = False

    def answer(self, call):
        """The answer to one call, which is its number and then its arguments."""
        number, given = call[0], call[1:]
        assert len(given) == LENGTHS[number]
        if number == 1:
            return self.start(*given)
        if not self.opened:
            return [-7]
        if not self.allowed(number, given):
            return [-2]
        return getattr(self, f"call_{number}")(*given)

    def start(self, seed, low, reach):
        if not (1 <= low <= TOP and low <= seed <= TOP and 1 <= reach <= 1024):
            return [-2]
        self.opened = True
        self.seed, self.low, self.reach = seed, low, reach
        self.gains = {k: (1, 0, 0) for k in range(4)}
        self.w, self.v = [1] * 8, [0] * 8
        return self.call_13()

    def allowed(self, number, given):
        if number == 2:
            limits = ((0, 3), (1, 2 ** 20), (0, 24), (0, 4095))
        elif number == 3:
            limits = ((-32768, 32767),) * 16
        elif number == 4:
            limits = ((0, 1023), (0, 3)) + ((0, 4095),) * 8
        elif number == 5:
            limits = ((0, 1023),)
        elif number in (7, 8):
            limits = ((0, len(self.clusters) - 1),)
        elif number == 10:
            limits = ((0, len(self.jets) - 1),)
        else:
            limits = ((1, 32),) * len(given)
        return all(least <= value <= greatest for value, (least, greatest) in zip(given, limits, strict=True))

    def call_2(self, k, mul, shift, zero):
        self.gains[k] = (mul, shift, zero)
        return [0]

    def call_3(self, *given):
        self.w, self.v = given[:8], given[8:]
        return [0]

    def call_4(self, block, k, *samples):
        mul, shift, zero = self.gains[k]
        a = sum(w * (sample - zero) for w, sample in zip(self.w, samples))
        b = sum(v * (sample - zero) for v, sample in zip(self.v, samples))
        self.energies[block] = self.times[block] = 0
        if a > 0:
            self.energies[block] = min(floor(Fraction(a * mul, 2 ** shift)), TOP)
            self.times[block] = max(-32768, min(32767, model.rounded(Fraction(256 * b, a))))
        self.fulls[block] = int(4095 in samples)
        return [int(self.energies[block] > 0)]

    def call_5(self, block):
        return [0, self.energies[block], self.times[block], self.fulls[block]]

    def call_6(self):
        found = model.cluster_answers(self.energies, self.times, self.fulls, self.seed, self.low)
        self.clusters = [answer[:5] for answer in found]
        self.parts = [one for _, one in sorted(model.parts_of(self.energies, self.seed, self.low).items())]
        self.jets = []
        return [len(self.clusters)]

    def call_7(self, number):
        moment = sum(energy * self.times[block] for block, energy in self.parts[number])
        time = model.rounded(Fraction(moment, self.clusters[number][2]))
        return self.clusters[number] + [time, int(any(self.fulls[block] for block, _ in self.parts[number]))]

    def call_8(self, number):
        return [len(self.parts[number])] + [value for part in self.parts[number] for value in part]

    def call_9(self):
        self.jets = model.jets_of([answer[2:5] for answer in self.clusters], self.reach)
        return [len(self.jets)]

    def call_10(self, number):
        energy, column, row, clusters = self.jets[number]
        return [len(clusters), energy, column, row] + sorted(clusters)

    def call_11(self):
        inside = sum(self.energies[block] for block in model.inside(self.energies, self.seed, self.low))
        return [0, sum(self.energies), inside, sum(self.energies) - inside]

    def call_12(self, width, height):
        energies = model.window_energies(self.energies, width, height)
        return list(min(energies.items(), key=lambda window: (-window[1], window[0])))

    def call_13(self):
        self.energies, self.times, self.fulls = [0] * 1024, [0] * 1024, [0] * 1024
        self.clusters, self.parts, self.jets = [], [], []
        return [0]
