"""One calorimeter: its settings, gains, weights, blocks and clusters.

Each method checks all its arguments before it changes anything.
"""

from jetblocks.clusters import clusters_of
from jetblocks.grid import BLOCKS
from jetblocks.pulses import GREATEST_ENERGY, GREATEST_SAMPLE, SAMPLES, Gain, Reading, weigh
from jetblocks.refusals import check_all, check_range

GAINS = 4
GREATEST_REACH = 1024
# 2 ** 20
GREATEST_MUL = 1048576
GREATEST_SHIFT = 24
LEAST_WEIGHT = -32768
GREATEST_WEIGHT = 32767


class Detector:
    """A calorimeter from the call that made it on."""

    def __init__(self, seed, low, reach):
        check_range(low, 1, GREATEST_ENERGY)
        check_range(seed, low, GREATEST_ENERGY)
        check_range(reach, 1, GREATEST_REACH)
        self.seed = seed
        self.low = low
        self.reach = reach
        self.gains = [Gain(1, 0, 0) for gain in range(GAINS)]
        self.energy_weights = [1] * SAMPLES
        self.time_weights = [0] * SAMPLES
        self.readings = [Reading(0, 0, 0) for block in range(BLOCKS)]
        self.clusters = []

    def set_gain(self, k, mul, shift, zero):
        """Sets one of the gains."""
        check_range(k, 0, GAINS - 1)
        check_range(mul, 1, GREATEST_MUL)
        check_range(shift, 0, GREATEST_SHIFT)
        check_range(zero, 0, GREATEST_SAMPLE)
        self.gains[k] = Gain(mul, shift, zero)

    def set_weights(self, energy_weights, time_weights):
        """Sets the weights w of the energy and the weights v of the time."""
        check_all(energy_weights, LEAST_WEIGHT, GREATEST_WEIGHT)
        check_all(time_weights, LEAST_WEIGHT, GREATEST_WEIGHT)
        self.energy_weights = energy_weights
        self.time_weights = time_weights

    def take_pulse(self, block, k, samples):
        """Weighs a pulse with a gain, and gives a block what comes of it; gives back the same."""
        check_range(block, 0, BLOCKS - 1)
        check_range(k, 0, GAINS - 1)
        check_all(samples, 0, GREATEST_SAMPLE)
        reading = weigh(samples, self.gains[k], self.energy_weights, self.time_weights)
        self.readings[block] = reading
        return reading

    def reading_of(self, block):
        """What a block holds."""
        check_range(block, 0, BLOCKS - 1)
        return self.readings[block]

    def find_clusters(self):
        """Finds the clusters of the present blocks; gives back how many there are."""
        energies = [reading.energy for reading in self.readings]
        self.clusters = clusters_of(energies, self.seed, self.low)
        return len(self.clusters)

    def cluster_at(self, number):
        """One of the clusters that were found last."""
        check_range(number, 0, len(self.clusters) - 1)
        return self.clusters[number]
