"""How a pulse is weighed: from eight samples to an energy, a time and a mark that it is full."""

from jetblocks.rounding import nearest

SAMPLES = 8
GREATEST_SAMPLE = 4095
# 2 ** 40
GREATEST_ENERGY = 1099511627776
LEAST_TIME = -32768
GREATEST_TIME = 32767


class Gain:
    """What a weighed sum is scaled by, and the sample value that counts as nothing."""

    def __init__(self, mul, shift, zero):
        self.mul = mul
        self.shift = shift
        self.zero = zero


class Reading:
    """What a block holds: its energy, its time, and 1 or 0 for full or not."""

    def __init__(self, energy, time, full):
        self.energy = energy
        self.time = time
        self.full = full


def weighed_sum(samples, factors, zero):
    """The sum of the samples above zero, each times its factor."""
    return sum([factor * (sample - zero) for factor, sample in zip(factors, samples)])


def weigh(samples, gain, energy_weights, time_weights):
    """The reading of a pulse."""
    full = 1 if GREATEST_SAMPLE in samples else 0
    charge = weighed_sum(samples, energy_weights, gain.zero)
    if charge <= 0:
        return Reading(0, 0, full)
    moment = weighed_sum(samples, time_weights, gain.zero)
    energy = min((charge * gain.mul) >> gain.shift, GREATEST_ENERGY)
    time = min(max(nearest(256 * moment, charge), LEAST_TIME), GREATEST_TIME)
    return Reading(energy, time, full)
