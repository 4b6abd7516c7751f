"""The lengths of a row, and its waves."""

from boxballs.basics import blocks_in, lengths_from
from boxballs.pairs import peeled


def lengths(row):
    """The lengths of a row, falling."""
    counts = []
    left = row
    while left:
        rest = peeled(left)
        counts.append(len(left) - len(rest))
        left = rest
    return lengths_from(counts)


def one_making(one, other):
    """Whether two rows have the same lengths."""
    return lengths(one) == lengths(other)


def counted_by_lengths(rows):
    """How many of these rows have such lengths: a rising list of tuples (lengths, many)."""
    found = {}
    for row in rows:
        told = lengths(row)
        found[told] = found.get(told, 0) + 1
    return sorted(found.items())


def runs_in(row):
    """The runs from the first ball on, lists of places: balls, empty boxes, balls, and so on by turns."""
    found = blocks_in(row)
    starts = [first for first, many in found]
    runs = []
    for at, (first, many) in enumerate(found):
        behind = first + many
        # A wave takes out as many boxes as balls, so a run with one box more than there are balls
        # stays longer than each run of balls: more boxes of it, even without end, change nothing.
        end = min([behind + len(row) + 1] + starts[at + 1:at + 2])
        runs.append(list(range(first, behind)))
        runs.append(list(range(behind, end)))
    return runs


def first_short(runs):
    """Where the first run stands that isn't longer than the run behind it."""
    at = 0
    while len(runs[at]) > len(runs[at + 1]):
        at += 1
    return at


def without_wave(runs, at):
    """The runs that are left where the run there is taken out, and as many boxes of the one behind it."""
    if at == 0:
        # Empty boxes ahead of the first ball are no run.
        return runs[2:]
    rest = runs[at + 1][len(runs[at]):]
    return runs[:at - 1] + [runs[at - 1] + rest] + runs[at + 2:]


def waves(row):
    """The waves of a row, tuples (balls, boxes), in the order in which they are taken out."""
    told = []
    runs = runs_in(row)
    while runs:
        at = first_short(runs)
        short = tuple(runs[at])
        behind = tuple(runs[at + 1][:len(short)])
        # Runs of balls and of empty boxes stand by turns, balls first.
        told.append((short, behind) if at % 2 == 0 else (behind, short))
        runs = without_wave(runs, at)
    return told
