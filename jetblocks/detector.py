"""One calorimeter: its settings, gains, weights, blocks, clusters and jets.

Each method checks all its arguments before it changes anything.
"""

from jetblocks.clusters import clusters_of, energy_inside
from jetblocks.grid import BLOCKS, SIDE
from jetblocks.jets import jets_of
from jetblocks.pulses import GREATEST_ENERGY, GREATEST_SAMPLE, SAMPLES, Gain, Reading, weigh
from jetblocks.refusals import check_all, check_range
from jetblocks.windows import greatest_window

GAINS = 4
GREATEST_REACH = 1024
# 2 ** 20
GREATEST_MUL = 1048576
GREATEST_SHIFT = 24
LEAST_WEIGHT = -32768
GREATEST_WEIGHT = 32767


def blank_readings():
    """What all blocks hold at first."""
    return [Reading(0, 0, 0) for block in range(BLOCKS)]


class Detector:
    """A calorimeter from the call that made it on."""

    def __init__(self, seed, low, reach):
        check_range(low, 1, GREATEST_ENERGY)
        check_range(seed, low, GREATEST_ENERGY)
        check_range(reach, 1, GREATEST_REACH)
        self.seed = seed
        self.low = low
        self.reach = reach
        self.gains = [Gain(1, 0, 0) for gain in range(GAINS)]
        self.energy_weights = [1] * SAMPLES
        self.time_weights = [0] * SAMPLES
        self.readings = blank_readings()
        self.clusters = []
        self.jets = []

    def set_gain(self, k, mul, shift, zero):
        """Sets one of the gains."""
        check_range(k, 0, GAINS - 1)
        check_range(mul, 1, GREATEST_MUL)
        check_range(shift, 0, GREATEST_SHIFT)
        check_range(zero, 0, GREATEST_SAMPLE)
        self.gains[k] = Gain(mul, shift, zero)

    def set_weights(self, energy_weights, time_weights):
        """Sets the weights w of the energy and the weights v of the time."""
        check_all(energy_weights, LEAST_WEIGHT, GREATEST_WEIGHT)
        check_all(time_weights, LEAST_WEIGHT, GREATEST_WEIGHT)
        self.energy_weights = energy_weights
        self.time_weights = time_weights

    def take_pulse(self, block, k, samples):
        """Weighs a pulse with a gain, and gives a block what comes of it; gives back the same."""
        check_range(block, 0, BLOCKS - 1)
        check_range(k, 0, GAINS - 1)
        check_all(samples, 0, GREATEST_SAMPLE)
        reading = weigh(samples, self.gains[k], self.energy_weights, self.time_weights)
        self.readings[block] = reading
        return reading

    def reading_of(self, block):
        """What a block holds."""
        check_range(block, 0, BLOCKS - 1)
        return self.readings[block]

    def present_energies(self):
        """The energies of all blocks, in their order."""
        return [reading.energy for reading in self.readings]

    def find_clusters(self):
        """Finds the clusters of the present blocks; gives back how many there are."""
        self.clusters = clusters_of(self.present_energies(), self.seed, self.low)
        self.jets = []
        return len(self.clusters)

    def cluster_at(self, number):
        """One of the clusters that were found last."""
        check_range(number, 0, len(self.clusters) - 1)
        return self.clusters[number]

    def find_jets(self):
        """Finds the jets of the present clusters; gives back how many there are."""
        self.jets = jets_of(self.clusters, self.reach)
        return len(self.jets)

    def jet_at(self, number):
        """One of the jets that were found last."""
        check_range(number, 0, len(self.jets) - 1)
        return self.jets[number]

    def energy_sums(self):
        """The energies of all blocks, of those that would belong to a cluster now, and of the others."""
        energies = self.present_energies()
        total = sum(energies)
        inside = energy_inside(energies, self.seed, self.low)
        return (total, inside, total - inside)

    def window_of(self, width, height):
        """The first block and the energy of the window of this size with the greatest energy."""
        check_range(width, 1, SIDE)
        check_range(height, 1, SIDE)
        return greatest_window(self.present_energies(), width, height)

    def clear_blocks(self):
        """Takes back all pulses, and what was found of them."""
        self.readings = blank_readings()
        self.clusters = []
        self.jets = []
