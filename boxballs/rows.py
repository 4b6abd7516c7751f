"""Rows of balls, and the steps of the carrier."""

from boxballs.basics import carry, carry_back, is_number, is_rising, need_number

MOST_BALLS = 12
FARTHEST = 1000000000
MOST_STEPS = 60


def is_row(thing):
    """Whether a thing, anything, is a row."""
    if not isinstance(thing, tuple) or len(thing) > MOST_BALLS:
        return False
    # Only numbers are compared: other things may not be comparable.
    if not all([is_number(place, -FARTHEST, FARTHEST) for place in thing]):
        return False
    return is_rising(thing)


def carried(row):
    """The row behind a step."""
    # A carrier with room for all balls is never full.
    behind, taken = carry(row, len(row))
    return behind


def undone(row):
    """The row of which this is the row behind a step."""
    return carry_back(row, len(row))


def loads(row):
    """How many balls the carrier has behind each box, from the first ball until it is done."""
    told = []
    if not row:
        return told
    load = 0
    for box in range(row[0], row[-1] + 1):
        if box in row:
            load += 1
        elif load > 0:
            load -= 1
        told.append(load)
    return told + list(range(load - 1, -1, -1))


def later(row, steps):
    """The row so many steps later, below 0 undone so often."""
    need_number(steps, -MOST_STEPS, MOST_STEPS)
    there = tuple(row)
    for turn in range(abs(steps)):
        there = carried(there) if steps > 0 else undone(there)
    return there
