"""Clusters once more, word by word after the document and with fractions, to compare with."""

from fractions import Fraction
from functools import cache
from math import floor


def near(one, other):
    rows = abs(one // 32 - other // 32)
    return one != other and min(rows, 32 - rows) <= 1 and abs(one % 32 - other % 32) <= 1


@cache
def all_near(one):
    return [other for other in range(1024) if near(one, other)]


def rounded(fraction):
    return floor(fraction + Fraction(1, 2))


def seeds_of(energies, seed):
    found = []
    for one in range(1024):
        others = all_near(one) if energies[one] >= seed else []
        greater = [other for other in others if energies[other] > energies[one]]
        same = [other for other in others if energies[other] == energies[one] and other < one]
        if energies[one] >= seed and not greater and not same:
            found.append(one)
    return found


def parts_of(energies, seed, low):
    """A dict from each seed to its (block, energy) pairs."""
    seeds = seeds_of(energies, seed)
    parts = {one: [] for one in seeds}
    for block, energy in enumerate(energies):
        if block in parts:
            parts[block].append((block, energy))
            continue
        owners = [one for one in seeds if near(one, block)] if energy >= low else []
        total = sum(energies[one] for one in owners)
        shares = {one: floor(Fraction(energy * energies[one], total)) for one in owners}
        if owners:
            favoured = sorted(owners, key=lambda one: (-energies[one], one))[0]
            shares[favoured] += energy - sum(shares.values())
        for one in owners:
            parts[one].append((block, shares[one]))
    return parts


def rows_apart(seed, block):
    return [step for step in (-1, 0, 1) if (seed // 32 + step) % 32 == block // 32][0]


def cluster_answers(energies, times, fulls, seed, low):
    """What the call cluster answers, for each cluster."""
    found = []
    for one, parts in sorted(parts_of(energies, seed, low).items()):
        energy = sum(part for _, part in parts)
        across = sum(part * (block % 32 - one % 32) for block, part in parts)
        along = sum(part * rows_apart(one, block) for block, part in parts)
        column = 64 * (one % 32) + rounded(Fraction(64 * across, energy))
        row = (64 * (one // 32) + rounded(Fraction(64 * along, energy))) % 2048
        time = rounded(Fraction(sum(part * times[block] for block, part in parts), energy))
        full = 1 if any(fulls[block] for block, _ in parts) else 0
        found.append([len(parts), one, energy, column, row, time, full])
    return found


def squared_distance(one, other):
    """Of two (energy, column, row, ..)."""
    rows = min((one[2] - other[2]) % 2048, (other[2] - one[2]) % 2048)
    return (one[1] - other[1]) ** 2 + rows ** 2


def step_of(pseudojets, reach):
    """Measure, 0 for finishing or 1 for joining, and the two places, of the step that comes first."""
    places = range(len(pseudojets))
    steps = [(Fraction(1, pseudojets[one][0] ** 2), 0, one, one) for one in places]
    for one in places:
        for other in range(one + 1, len(pseudojets)):
            greater = max(pseudojets[one][0], pseudojets[other][0])
            distance = squared_distance(pseudojets[one], pseudojets[other])
            steps.append((Fraction(distance, reach ** 2 * greater ** 2), 1, one, other))
    return min(steps)


def jets_of(clusters, reach):
    """The jets, each (energy, column, row, clusters), of clusters that are (energy, column, row) each."""
    pseudojets = [(energy, column, row, [number]) for number, (energy, column, row) in enumerate(clusters)]
    jets = []
    while pseudojets:
        _, joining, one, other = step_of(pseudojets, reach)
        if not joining:
            jets.append(pseudojets[one])
            pseudojets = pseudojets[:one] + pseudojets[one + 1:]
            continue
        first, second = pseudojets[one], pseudojets[other]
        place = first if first[0] >= second[0] else second
        result = (first[0] + second[0], place[1], place[2], first[3] + second[3])
        pseudojets = pseudojets[:one] + [result] + pseudojets[one + 1:other] + pseudojets[other + 1:]
    return sorted(jets, key=lambda jet: jet[0], reverse=True)


def window_energies(energies, width, height):
    """A dict from the first block of each window of this size to its energy."""
    found = {}
    for first in range(1024):
        row, column = first // 32, first % 32
        if column + width <= 32:
            rows = [(row + step) % 32 for step in range(height)]
            found[first] = sum(sum(energies[32 * one + column:32 * one + column + width]) for one in rows)
    return found


def inside(energies, seed, low):
    """The blocks that belong to a cluster."""
    return {block for parts in parts_of(energies, seed, low).values() for block, _ in parts}
