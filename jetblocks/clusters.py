"""How clusters are found: seeds, the blocks around them, and what each seed gets of a block."""

from jetblocks.grid import BLOCKS, CYCLE, FINENESS, column_of, column_step, neighbours, row_of, row_step
from jetblocks.rounding import nearest


class Cluster:
    """A seed and its parts, (block, energy) in the order of the blocks."""

    def __init__(self, seed, parts):
        self.seed = seed
        self.parts = parts
        self.energy = sum([energy for block, energy in parts])
        across = sum([energy * column_step(seed, block) for block, energy in parts])
        along = sum([energy * row_step(seed, block) for block, energy in parts])
        self.column = FINENESS * column_of(seed) + nearest(FINENESS * across, self.energy)
        self.row = (FINENESS * row_of(seed) + nearest(FINENESS * along, self.energy)) % CYCLE


def present_time(cluster, readings):
    """The time of a cluster, by the times that its blocks have now."""
    weighted = sum([energy * readings[block].time for block, energy in cluster.parts])
    return nearest(weighted, cluster.energy)


def present_full(cluster, readings):
    """1 if one of the blocks of a cluster is full now, otherwise 0."""
    return max([readings[block].full for block, energy in cluster.parts])


def is_seed(block, energies, seed):
    """Whether a block is a seed."""
    energy = energies[block]
    if energy < seed:
        return False
    for other in neighbours(block):
        if energies[other] > energy or (energies[other] == energy and other < block):
            return False
    return True


def seed_blocks(energies, seed):
    """The seeds, in increasing order, as the keys of a dict, so that they can be asked for."""
    found = {}
    for block in range(BLOCKS):
        if is_seed(block, energies, seed):
            found[block] = True
    return found


def owners_of(block, energies, seeds, low):
    """The seeds to which a block belongs, in increasing order."""
    if block in seeds:
        return [block]
    if energies[block] < low:
        return []
    return [other for other in neighbours(block) if other in seeds]


def divide(energy, seed_energies):
    """What each of several seeds gets of the energy of a block; the seeds are in increasing order."""
    total = sum(seed_energies)
    shares = [energy * one // total for one in seed_energies]
    # index finds the first of several greatest, which is the one with the smallest number.
    greatest = seed_energies.index(max(seed_energies))
    shares[greatest] += energy - sum(shares)
    return shares


def clusters_of(energies, seed, low):
    """The clusters of blocks with these energies, by increasing seeds."""
    seeds = seed_blocks(energies, seed)
    parts = {}
    for block in seeds:
        parts[block] = []
    for block in range(BLOCKS):
        owners = owners_of(block, energies, seeds, low)
        if owners:
            shares = divide(energies[block], [energies[owner] for owner in owners])
            for owner, share in zip(owners, shares):
                parts[owner].append((block, share))
    return [Cluster(block, parts[block]) for block in seeds]


def energy_inside(energies, seed, low):
    """The energy of all blocks that belong to a cluster."""
    seeds = seed_blocks(energies, seed)
    return sum([energies[block] for block in range(BLOCKS) if owners_of(block, energies, seeds, low)])
