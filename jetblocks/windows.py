"""The window with the greatest energy."""

from jetblocks.grid import SIDE


def strips_of(energies, row, width):
    """The energies of width adjacent blocks of a row, for each first column that leaves room for them."""
    start = SIDE * row
    return [sum(energies[start + column:start + column + width]) for column in range(SIDE - width + 1)]


def greatest_window(energies, width, height):
    """The first block and the energy of the window of this size with the greatest energy."""
    strips = [strips_of(energies, row, width) for row in range(SIDE)]
    first = 0
    greatest = -1
    for row in range(SIDE):
        for column in range(SIDE - width + 1):
            energy = sum([strips[(row + step) % SIDE][column] for step in range(height)])
            # The first blocks are gone through in increasing order, so of several the smallest stays.
            if energy > greatest:
                first = SIDE * row + column
                greatest = energy
    return (first, greatest)
