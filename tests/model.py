"""Clusters once more, word by word after the document and with fractions, to compare with."""

from fractions import Fraction
from math import floor


def near(one, other):
    rows = abs(one // 32 - other // 32)
    return one != other and min(rows, 32 - rows) <= 1 and abs(one % 32 - other % 32) <= 1


def rounded(fraction):
    return floor(fraction + Fraction(1, 2))


def seeds_of(energies, seed):
    found = []
    for one in range(1024):
        others = [other for other in range(1024) if near(one, other)] if energies[one] >= seed else []
        greater = [other for other in others if energies[other] > energies[one]]
        same = [other for other in others if energies[other] == energies[one] and other < one]
        if energies[one] >= seed and not greater and not same:
            found.append(one)
    return found


def parts_of(energies, seed, low):
    """A dict from each seed to its (block, energy) pairs."""
    seeds = seeds_of(energies, seed)
    parts = {one: [] for one in seeds}
    for block, energy in enumerate(energies):
        if block in parts:
            parts[block].append((block, energy))
            continue
        owners = [one for one in seeds if near(one, block)] if energy >= low else []
        total = sum(energies[one] for one in owners)
        shares = {one: floor(Fraction(energy * energies[one], total)) for one in owners}
        if owners:
            favoured = sorted(owners, key=lambda one: (-energies[one], one))[0]
            shares[favoured] += energy - sum(shares.values())
        for one in owners:
            parts[one].append((block, shares[one]))
    return parts


def rows_apart(seed, block):
    return [step for step in (-1, 0, 1) if (seed // 32 + step) % 32 == block // 32][0]


def cluster_answers(energies, times, fulls, seed, low):
    """What the call cluster answers, for each cluster."""
    found = []
    for one, parts in sorted(parts_of(energies, seed, low).items()):
        energy = sum(part for _, part in parts)
        across = sum(part * (block % 32 - one % 32) for block, part in parts)
        along = sum(part * rows_apart(one, block) for block, part in parts)
        column = 64 * (one % 32) + rounded(Fraction(64 * across, energy))
        row = (64 * (one // 32) + rounded(Fraction(64 * along, energy))) % 2048
        time = rounded(Fraction(sum(part * times[block] for block, part in parts), energy))
        full = 1 if any(fulls[block] for block, _ in parts) else 0
        found.append([len(parts), one, energy, column, row, time, full])
    return found
