"""Builds lists of calls and takes lists of answers apart."""

import unittest

from jetblocks.calorimeter import answers

FAR = 2 ** 53
TOP = 2 ** 40

FIND = [6]
JETS = [9]
SUMS = [11]
CLEAR = [13]

# No list has more calls.
MOST_CALLS = 80


def begin(seed=1, low=1, reach=64):
    return [1, seed, low, reach]


def gain(k, mul=1, shift=0, zero=0):
    return [2, k, mul, shift, zero]


def weights(w, v):
    return [3] + list(w) + list(v)


def pulse(block, samples, k=0):
    return [4, block, k] + list(samples)


def block(number):
    return [5, number]


def cluster(number):
    return [7, number]


def parts(number):
    return [8, number]


def jet(number):
    return [10, number]


def window(width, height):
    return [12, width, height]


def at(row, column):
    """The number of a block; rows go on across the cycle's end."""
    return 32 * (row % 32) + column


def first(*samples):
    """Eight samples: those given, then zeros."""
    return list(samples) + [0] * (8 - len(samples))


# With these weights the first seven samples add up to the energy, and the last one makes the time.
PLAIN_WEIGHTS = weights([1] * 7 + [0], [0] * 7 + [1])


def hit(number, energy, late=0):
    """A pulse that is not full; under PLAIN_WEIGHTS the time is 256 * late / energy."""
    samples = []
    for _ in range(7):
        samples.append(min(energy - sum(samples), 4094))
    if sum(samples) != energy or not 0 <= late <= 4094:
        raise ValueError(f"no such pulse: {energy}, {late}")
    return pulse(number, samples + [late])


# With these weights a sum can be any number up to 2 ** 29 exactly, and more.
STRONG_WEIGHTS = weights([32767] * 6 + [8, 1], [0] * 8)


def strong_samples(charge):
    """Samples whose sum under STRONG_WEIGHTS is charge."""
    many, few = divmod(charge, 32767)
    samples = []
    for _ in range(6):
        samples.append(min(many - sum(samples), 4095))
    samples += [min(few // 8, 4095), few - 8 * min(few // 8, 4095)]
    if sum(samples[:6]) != many or samples[7] > 4095:
        raise ValueError(f"no such sum: {charge}")
    return samples


def strong_hit(number, energy):
    """Two calls that give a block exactly this energy, up to 2 ** 40, under STRONG_WEIGHTS."""
    if energy < 2 ** 29:
        return [gain(0), pulse(number, strong_samples(energy))]
    shift = 9
    for mul in range(2 ** 20, 2 ** 19, -1):
        charge = -(-energy * 2 ** shift // mul)
        if charge * mul >> shift == energy and charge // 32767 <= 6 * 4095:
            return [gain(0, mul, shift), pulse(number, strong_samples(charge))]
    raise ValueError(f"no gain for {energy}")


def flat(calls):
    return [number for call in calls for number in call]


def take_apart(numbers):
    """The answers one by one, from the list in which each has its length before it."""
    found = []
    position = 0
    while position < len(numbers):
        end = position + 1 + numbers[position]
        if end > len(numbers):
            raise ValueError("the last answer is cut off")
        found.append(numbers[position + 1:end])
        position = end
    return found


def ask(*calls):
    """The answers to the calls, a list for each."""
    numbers = answers(flat(calls))
    if [number for number in numbers if type(number) is not int]:
        raise ValueError("an answer is not a whole number")
    found = take_apart(numbers)
    if len(found) != len(calls):
        raise ValueError("not one answer for each call")
    return found


def ask_in_pieces(before, queries):
    """The answers to many queries that change nothing, each piece of them behind the same calls."""
    room = MOST_CALLS - len(before)
    found = []
    for start in range(0, len(queries), room):
        found += ask(*before, *queries[start:start + room])[len(before):]
    return found


def last(*calls):
    """The answer to the last of the calls."""
    return ask(*calls)[-1]


class CallCase(unittest.TestCase):
    def assert_last(self, expected, *calls):
        self.assertEqual(last(*calls), expected)

    def assert_refused_around(self, make, least, greatest, before):
        """make(value) is a call that is refused with -2 outside the range, and not at its ends."""
        for value in (least, greatest):
            self.assertGreaterEqual(last(*before, make(value))[0], 0, value)
        for value in (least - 1, greatest + 1, -FAR, FAR):
            self.assertEqual(last(*before, make(value)), [-2], value)


class Numbers:
    """Made-up numbers, the same ones each time."""

    def __init__(self, start):
        self.state = start

    def below(self, limit):
        self.state = (self.state * 6364136223846793005 + 1442695040888963407) % 2 ** 64
        return (self.state >> 33) % limit
