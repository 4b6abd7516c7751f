"""Rows made: a free row of its blocks, and all rows in a few boxes."""

from boxballs.basics import is_number, need_number, ways
from boxballs.errors import NoNumber
from boxballs.rows import MOST_BALLS
from boxballs.waves import counted_by_lengths

WIDEST_GAP = 100
MOST_BOXES = 10


def are_lengths(thing):
    """Whether a thing, anything, is a tuple of blocks' lengths that never fall, not too many balls together."""
    if not isinstance(thing, tuple) or not all([is_number(many, 1, MOST_BALLS) for many in thing]):
        return False
    return sum(thing) <= MOST_BALLS and list(thing) == sorted(thing)


def are_gaps(thing, lengths):
    """Whether a thing, anything, is a tuple of the gaps between blocks of these lengths."""
    # Of no lengths there are no gaps, as of one.
    ahead = lengths[:-1]
    if not isinstance(thing, tuple) or len(thing) != len(ahead):
        return False
    return all([is_number(gap, many, WIDEST_GAP) for gap, many in zip(thing, ahead)])


def free_row(lengths, gaps):
    """The free row of blocks of these lengths with these gaps between, from place 0 on."""
    if not are_lengths(lengths) or not are_gaps(gaps, lengths):
        raise NoNumber("lengths that never fall are due, and between them gaps no shorter than the block ahead")
    row = []
    start = 0
    # Behind the last block there is no gap that counts.
    for many, gap in zip(lengths, gaps + (0,)):
        row.extend(list(range(start, start + many)))
        start += many + gap
    return tuple(row)


def all_rows(boxes, balls):
    """All rows of so many balls in so many boxes from 0 on: a rising list."""
    need_number(boxes, 0, MOST_BOXES)
    need_number(balls, 0, boxes)
    return ways(boxes, balls)


def by_lengths(boxes, balls):
    """How many of all these rows have such lengths: a rising list of tuples (lengths, many)."""
    return counted_by_lengths(all_rows(boxes, balls))
