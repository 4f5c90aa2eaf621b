"""Where the blocks lie: 32 rows in a cycle, 32 columns that have two ends."""

SIDE = 32
BLOCKS = 1024
# Columns and rows of clusters are told in 64ths of a block; so told, the rows' cycle is 32 * 64 long.
FINENESS = 64
CYCLE = 2048


def row_of(block):
    """The row of a block."""
    return block // SIDE


def column_of(block):
    """The column of a block."""
    return block % SIDE


def row_step(start, end):
    """The difference of the rows of two blocks in the same or adjacent rows: -1, 0 or 1."""
    # Adjacent rows across the cycle's end differ by 31, which counts as a step of 1 the other way.
    return (row_of(end) - row_of(start) + 1) % SIDE - 1


def column_step(start, end):
    """The difference of the columns of two blocks."""
    return column_of(end) - column_of(start)


def neighbours(block):
    """The 5 or 8 neighbours of a block, in increasing order."""
    near = []
    for row in (row_of(block) - 1, row_of(block), row_of(block) + 1):
        for column in (column_of(block) - 1, column_of(block), column_of(block) + 1):
            other = row % SIDE * SIDE + column
            if 0 <= column < SIDE and other != block:
                near.append(other)
    return sorted(near)
