"""Motley rows, whose balls are of several kinds."""

from boxballs.basics import is_number, need_number
from boxballs.rows import is_row

KINDS = (1, 2, 3)


def is_ball(thing):
    """Whether a thing, anything, is a tuple of two things, the second one a kind."""
    return isinstance(thing, tuple) and len(thing) == 2 and is_number(thing[1], KINDS[0], KINDS[-1])


def is_motley(thing):
    """Whether a thing, anything, is a motley row."""
    if not isinstance(thing, tuple) or not all([is_ball(part) for part in thing]):
        return False
    return is_row(tuple([place for place, kind in thing]))


def kind_carried(motley, kind):
    """The motley row behind a step of a kind."""
    need_number(kind, KINDS[0], KINDS[-1])
    boxes = dict(motley)
    for place, its_kind in motley:
        if its_kind == kind:
            box = place + 1
            while box in boxes:
                box += 1
            del boxes[place]
            boxes[box] = kind
    return tuple(sorted(boxes.items()))


def motley_carried(motley):
    """The motley row behind a step: one of each kind."""
    there = motley
    for kind in KINDS:
        there = kind_carried(there, kind)
    return there


def turned(motley):
    """The motley row seen from the other side."""
    return tuple([(-place, kind) for place, kind in reversed(motley)])


def motley_undone(motley):
    """The motley row of which this is the one behind a step."""
    # To a kind the boxes of the others are as if not there, so its step is undone from the right as in a plain row.
    there = turned(motley)
    for kind in reversed(KINDS):
        there = kind_carried(there, kind)
    return turned(there)


def put_in(lists, kind):
    """Put a kind into the first list; what it takes the place of is put into the next one, and so on."""
    number = kind
    for numbers in lists:
        greater = [at for at, there in enumerate(numbers) if there > number]
        if not greater:
            numbers.append(number)
            return
        put_out = numbers[greater[0]]
        numbers[greater[0]] = number
        number = put_out
    lists.append([number])


def staying(motley):
    """The lists of a motley row, as tuples, which stay as they are by steps."""
    lists = []
    for place, kind in motley:
        put_in(lists, kind)
    return [tuple(numbers) for numbers in lists]
