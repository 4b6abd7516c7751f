"""Rings of boxes, the first one behind the last one."""

from boxballs.basics import carry, carry_back, closed_up, is_number, is_rising, lengths_from, need_number, ways

MOST_BOXES = 14
MOST_FOR_ROUNDS = 10


def is_ring(thing):
    """Whether a thing, anything, is a ring."""
    if not isinstance(thing, tuple) or len(thing) != 2:
        return False
    many, balls = thing
    if not is_number(many, 1, MOST_BOXES) or not isinstance(balls, tuple):
        return False
    # Only numbers are compared: other things may not be comparable.
    if not all([is_number(ball, 0, many - 1) for ball in balls]):
        return False
    return is_rising(balls) and 2 * len(balls) < many


def laid_twice(ring):
    """The row of the ring's balls going round twice."""
    many, balls = ring
    return balls + tuple([ball + many for ball in balls])


def ring_carried(ring):
    """The ring behind a step."""
    many, balls = ring
    # Going round once, the carrier comes to have what it has at the start of each later round.
    twice = laid_twice(ring)
    behind, taken = carry(twice, len(twice))
    return many, tuple([place - many for place in behind if many <= place < 2 * many])


def ring_undone(ring):
    """The ring of which this is the ring behind a step."""
    many, balls = ring
    # The carrier goes from the right, so the round that counts is the one on the left.
    twice = laid_twice(ring)
    ahead = carry_back(twice, len(twice))
    return many, tuple([place for place in ahead if 0 <= place < many])


def ring_peeled(ring):
    """The ring that is left where each ball with an empty box right behind it, and that box, are taken out."""
    many, balls = ring
    gone = [ball for ball in balls if (ball + 1) % many not in balls]
    out = gone + [(ball + 1) % many for ball in gone]
    return many - len(out), closed_up(balls, out)


def ring_lengths(ring):
    """The lengths of a ring, falling."""
    counts = []
    left = ring
    while left[1]:
        rest = ring_peeled(left)
        counts.append(len(left[1]) - len(rest[1]))
        left = rest
    return lengths_from(counts)


def round_of(ring):
    """How many steps it takes at least, one or more, till it is the same ring again."""
    steps = 1
    there = ring_carried(ring)
    while there != ring:
        there = ring_carried(there)
        steps += 1
    return steps


def rounds(many, balls):
    """How many rounds there are of so many steps: a rising list of tuples (steps, many)."""
    need_number(many, 1, MOST_FOR_ROUNDS)
    # Fewer than half of the boxes have a ball.
    need_number(balls, 0, (many - 1) // 2)
    found = {}
    for way in ways(many, balls):
        steps = round_of((many, way))
        found[steps] = found.get(steps, 0) + 1
    # A round goes through as many rings as it has steps.
    return [(steps, found[steps] // steps) for steps in sorted(found)]
