"""The calls on one calorimeter: a list of whole numbers in, a list of whole numbers out."""

from jetblocks.clusters import present_full, present_time
from jetblocks.detector import Detector
from jetblocks.refusals import OutOfRange

NO_CALORIMETER = -7
OUT_OF_RANGE = -2

OPENING = 1


def answer_gain(detector, given):
    """gain(k, mul, shift, zero)"""
    detector.set_gain(given[0], given[1], given[2], given[3])
    return [0]


def answer_weights(detector, given):
    """weights(w, v)"""
    detector.set_weights(given[:8], given[8:])
    return [0]


def answer_pulse(detector, given):
    """pulse(block, k, samples)"""
    reading = detector.take_pulse(given[0], given[1], given[2:])
    return [1 if reading.energy > 0 else 0]


def answer_block(detector, given):
    """block(block)"""
    reading = detector.reading_of(given[0])
    return [0, reading.energy, reading.time, reading.full]


def answer_find_clusters(detector, given):
    """find_clusters()"""
    return [detector.find_clusters()]


def answer_cluster(detector, given):
    """cluster(cluster)"""
    cluster = detector.cluster_at(given[0])
    time = present_time(cluster, detector.readings)
    full = present_full(cluster, detector.readings)
    return [len(cluster.parts), cluster.seed, cluster.energy, cluster.column, cluster.row, time, full]


def answer_parts(detector, given):
    """parts(cluster)"""
    cluster = detector.cluster_at(given[0])
    numbers = [len(cluster.parts)]
    for block, energy in cluster.parts:
        numbers.extend([block, energy])
    return numbers


def answer_find_jets(detector, given):
    """find_jets()"""
    return [detector.find_jets()]


def answer_jet(detector, given):
    """jet(jet)"""
    jet = detector.jet_at(given[0])
    return [len(jet.clusters), jet.energy, jet.column, jet.row] + jet.clusters


def answer_sums(detector, given):
    """sums()"""
    return [0] + list(detector.energy_sums())


def answer_window(detector, given):
    """window(width, height)"""
    return list(detector.window_of(given[0], given[1]))


def answer_clear(detector, given):
    """clear()"""
    detector.clear_blocks()
    return [0]


# How many numbers stand behind the number of each call.
ARGUMENTS = {1: 3, 2: 4, 3: 16, 4: 10, 5: 1, 6: 0, 7: 1, 8: 1, 9: 0, 10: 1, 11: 0, 12: 2, 13: 0}

# The calls that need a calorimeter.
HANDLERS = {
    2: answer_gain,
    3: answer_weights,
    4: answer_pulse,
    5: answer_block,
    6: answer_find_clusters,
    7: answer_cluster,
    8: answer_parts,
    9: answer_find_jets,
    10: answer_jet,
    11: answer_sums,
    12: answer_window,
    13: answer_clear,
}


class Session:
    """The calls of one list, which begin without a calorimeter."""

    def __init__(self):
        self.detector = None

    def answer(self, call, given):
        """The numbers that answer one call; a refused one changes nothing."""
        try:
            if call == OPENING:
                # A refused Detector is never kept, so the present one stays.
                self.detector = Detector(given[0], given[1], given[2])
                return [0]
            if self.detector is None:
                return [NO_CALORIMETER]
            return HANDLERS[call](self.detector, given)
        except OutOfRange:
            return [OUT_OF_RANGE]


def answers(calls):
    """The answers to a list of calls, each with how many numbers it has before it."""
    session = Session()
    numbers = []
    position = 0
    while position < len(calls):
        call = calls[position]
        behind = position + 1 + ARGUMENTS[call]
        answer = session.answer(call, calls[position + 1:behind])
        numbers.append(len(answer))
        numbers.extend(answer)
        position = behind
    return numbers
