"""How jets are found: the clusters are joined step by step, and finished where nothing is near enough."""

from jetblocks.grid import CYCLE


class Pseudojet:
    """What becomes a jet: an energy, a column, a row, and the numbers of its clusters in increasing order."""

    def __init__(self, energy, column, row, clusters):
        self.energy = energy
        self.column = column
        self.row = row
        self.clusters = clusters


def squared_distance(one, other):
    """The squared distance of two pseudojets."""
    columns = one.column - other.column
    rows = abs(one.row - other.row)
    rows = min(rows, CYCLE - rows)
    return columns * columns + rows * rows


def joined(first, second):
    """The pseudojet that two become."""
    greater = second if second.energy > first.energy else first
    clusters = sorted(first.clusters + second.clusters)
    return Pseudojet(first.energy + second.energy, greater.column, greater.row, clusters)


def greatest_place(pseudojets):
    """The place of the pseudojet with the greatest energy, the first one of several."""
    energies = [pseudojet.energy for pseudojet in pseudojets]
    return energies.index(max(energies))


def next_step(pseudojets, reach):
    """The place of the pseudojet to be finished, or the places of the two to be joined, as a list."""
    greatest = greatest_place(pseudojets)
    places = [greatest]
    # Measures are kept as fractions times reach ** 2, so that they are compared exactly.
    dividend = reach * reach
    divisor = pseudojets[greatest].energy * pseudojets[greatest].energy
    for first in range(len(pseudojets)):
        one = pseudojets[first]
        for second in range(first + 1, len(pseudojets)):
            other = pseudojets[second]
            distance = squared_distance(one, other)
            energy = max(one.energy, other.energy)
            # An equal measure is no reason to change: finishing and the earlier pairs come first.
            if distance * divisor < dividend * energy * energy:
                places = [first, second]
                dividend = distance
                divisor = energy * energy
    return places


def jets_of(clusters, reach):
    """The jets of these clusters, in the order of their numbers."""
    pseudojets = [
        Pseudojet(cluster.energy, cluster.column, cluster.row, [number]) for number, cluster in enumerate(clusters)
    ]
    finished = []
    while pseudojets:
        places = next_step(pseudojets, reach)
        if len(places) == 1:
            finished.append(pseudojets.pop(places[0]))
        else:
            pseudojets[places[0]] = joined(pseudojets[places[0]], pseudojets[places[1]])
            pseudojets.pop(places[1])
    # Those of the same energy stay in the order in which they were finished.
    return sorted(finished, key=lambda jet: -jet.energy)
