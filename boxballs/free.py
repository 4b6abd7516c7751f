"""Free rows, whose blocks never meet again, and rows that come to be free."""

from boxballs.basics import blocks_in, need_number
from boxballs.errors import NotFree, TooLong
from boxballs.rows import carried, is_row

MOST_STEPS = 1000000
MOST_TO_FREE = 60
LONGEST = 8
WIDEST = 30


def is_free(row):
    """Whether a row is free."""
    found = blocks_in(row)
    for (first, many), (start, following) in zip(found, found[1:]):
        if following < many or start - first - many < many:
            return False
    return True


def blocks(row):
    """The blocks of a free row, from the left, as tuples (first place, length)."""
    # Anything that is no free row is refused, not only rows that aren't free.
    if not is_row(row) or not is_free(row):
        raise NotFree("a free row is due")
    return tuple(blocks_in(row))


def free_later(row, steps):
    """A free row so many steps later."""
    found = blocks(row)
    need_number(steps, 0, MOST_STEPS)
    return tuple([place + many * steps for first, many in found for place in range(first, first + many)])


def until_free(row):
    """How many steps it takes at least to be free, and the row then."""
    there = row
    for steps in range(MOST_TO_FREE + 1):
        if is_free(there):
            return steps, there
        there = carried(there)
    raise TooLong(f"it takes more than {MOST_TO_FREE} steps to be free")


def steps_to_free(row):
    """How many steps it takes at least to be free."""
    steps, there = until_free(row)
    return steps


def meeting(longer, shorter, gap):
    """How many steps it takes two blocks, the longer one ahead from place 0 on, to be free, and the row then."""
    need_number(longer, 2, LONGEST)
    need_number(shorter, 1, longer - 1)
    need_number(gap, longer, WIDEST)
    start = longer + gap
    return until_free(tuple(list(range(longer)) + list(range(start, start + shorter))))
