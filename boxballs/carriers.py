"""Small carriers, which take no more balls than their size."""

from boxballs.basics import carry, carry_back, need_number

GREATEST_SIZE = 12


def carried_by(row, size):
    """The row behind a step of the small carrier."""
    need_number(size, 1, GREATEST_SIZE)
    behind, taken = carry(row, size)
    return behind


def undone_by(row, size):
    """The row of which this is the row behind a step of the small carrier."""
    need_number(size, 1, GREATEST_SIZE)
    return carry_back(row, size)


def taken_by(row, size):
    """How many balls the small carrier takes in all."""
    need_number(size, 1, GREATEST_SIZE)
    behind, taken = carry(row, size)
    return taken


def takings(row):
    """The takings of sizes 1, 2 and so on, up to how many balls there are."""
    told = []
    for size in range(1, len(row) + 1):
        behind, taken = carry(row, size)
        told.append(taken)
    return told
