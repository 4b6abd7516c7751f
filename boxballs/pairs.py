"""Balls and their partners, the depths of these pairs, and rows peeled."""

from boxballs.basics import closed_up


def pairs(row):
    """The pairs (ball, box), rising."""
    found = []
    held = []
    box = row[0] if row else 0
    for place in row:
        # Only the boxes that get a ball are gone through: a gap may be of any length.
        while held and box < place:
            found.append((held.pop(), box))
            box += 1
        held.append(place)
        box = place + 1
    while held:
        found.append((held.pop(), box))
        box += 1
    return sorted(found)


def depths(row):
    """The depths of the pairs, in their order."""
    told = []
    inner = []
    # The pairs that lie in a pair stand behind it, so their depths are known first from the end on.
    for ball, box in reversed(pairs(row)):
        depth = 1 + max([deep for end, deep in inner if end < box], default=0)
        inner.append((box, depth))
        told.append(depth)
    return told[::-1]


def peeled(row):
    """The row that is left where the pairs of depth 1 are taken out."""
    # No pair lies in a pair just where its box is right behind its ball.
    balls = [place for place in row if place + 1 not in row]
    return closed_up(row, balls + [place + 1 for place in balls])
