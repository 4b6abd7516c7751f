"""What several modules need: checks of numbers, the carrier's way, blocks, taking out, ways to lay balls."""

from boxballs.errors import NoNumber


def is_number(thing, least, greatest):
    """Whether a thing is a whole number from least to greatest."""
    if isinstance(thing, bool) or not isinstance(thing, int):
        return False
    return least <= thing <= greatest


def need_number(thing, least, greatest):
    """Refuse a thing that is no whole number from least to greatest."""
    if not is_number(thing, least, greatest):
        raise NoNumber(f"a whole number from {least} to {greatest} is due")


def is_rising(numbers):
    """Whether each number is greater than the one ahead."""
    return all([one < other for one, other in zip(numbers, numbers[1:])])


def carry(row, size):
    """The row behind a step of a carrier of this size, and how many balls it takes."""
    behind = []
    load = 0
    taken = 0
    # The carrier is empty ahead of the first ball, so nothing changes there.
    box = row[0] if row else 0
    for place in row:
        # Only the boxes that get a ball are gone through: a gap may be of any length.
        laid = min(load, place - box)
        behind.extend(list(range(box, box + laid)))
        load -= laid
        if load < size:
            load += 1
            taken += 1
        else:
            behind.append(place)
        box = place + 1
    behind.extend(list(range(box, box + load)))
    return tuple(behind), taken


def mirrored(row):
    """The row seen from the other side."""
    return tuple([-place for place in reversed(row)])


def carry_back(row, size):
    """The row of which this is the row behind a step of a carrier of this size."""
    # Box by box a carrier from the right does the reverse of what one from the left did.
    ahead, taken = carry(mirrored(row), size)
    return mirrored(ahead)


def blocks_in(row):
    """The blocks of balls beside one another, from the left: a list of tuples (first place, length)."""
    firsts = [place for place in row if place - 1 not in row]
    lasts = [place for place in row if place + 1 not in row]
    return [(first, last - first + 1) for first, last in zip(firsts, lasts)]


def closed_up(places, out):
    """The places that are left, each less by how many places that are taken out are less than it."""
    left = [place for place in places if place not in out]
    return tuple([place - len([gone for gone in out if gone < place]) for place in left])


def lengths_from(counts):
    """The lengths, told by how many balls are taken out each time."""
    first = counts[0] if counts else 0
    return tuple([len([many for many in counts if many >= ball]) for ball in range(1, first + 1)])


def ways(boxes, balls):
    """All ways to lay so many balls into boxes numbered from 0: a rising list of rising tuples."""
    laid = [()]
    for turn in range(balls):
        laid = [way + (place,) for way in laid for place in range(way[-1] + 1 if way else 0, boxes)]
    return laid
