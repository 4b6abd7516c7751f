"""Promises 40, 41 and 42, and what 1 says of them."""

import itertools
import unittest

from boxballs.pairs import depths, pairs, peeled
from boxballs.rows import carried, is_row
from boxballs.waves import lengths
from tests.helper import (
    END, FAR_ROWS, check_numbers, check_own, check_row, counts_by_gaps, lengths_by_counts, mixed_rows, near_rows,
    small_rows, soon, stretched,
)

BLOCKS = [tuple(range(first, first + many)) for first in (-END, -3, 0, END - 11) for many in range(1, 13)]
FAR = FAR_ROWS + BLOCKS + [stretched(row, 3)[0] for row in mixed_rows(150)]


def partner_of(row, ball):
    """The place where, from the ball on, as many empty boxes as balls have been passed."""
    place, more = ball, 1
    while more:
        place += 1
        more += 1 if place in row else -1
    return place


def depth_of(told, pair):
    """A pair's depth, as the document tells it."""
    ball, box = pair
    return 1 + max((depth_of(told, (one, other)) for one, other in told if ball < one and other < box), default=0)


def peeled_by_boxes(row):
    """A near row peeled: its boxes from some empty ones ahead of it on, those left numbered anew."""
    first = row[0] - 3
    boxes = [place in row for place in range(first, row[-1] + 4)]
    left = []
    for at, has_ball in enumerate(boxes):
        ahead = at > 0 and boxes[at - 1]
        behind = at + 1 < len(boxes) and boxes[at + 1]
        if has_ball and behind or not has_ball and not ahead:
            left.append(has_ball)
    return tuple(first + at for at, has_ball in enumerate(left) if has_ball)


class Pairs(unittest.TestCase):

    def test_by_hand(self):
        with soon():
            for row, wanted in [
                ((), []),
                ((0,), [(0, 1)]),
                ((-1,), [(-1, 0)]),
                ((-END,), [(-END, -END + 1)]),
                ((END,), [(END, END + 1)]),
                ((0, 1), [(0, 3), (1, 2)]),
                ((0, 2), [(0, 1), (2, 3)]),
                ((0, 1, 3), [(0, 5), (1, 2), (3, 4)]),
                ((0, 1, 2, 5), [(0, 7), (1, 4), (2, 3), (5, 6)]),
                ((-END, -END + 1, 0, END), [(-END, -END + 3), (-END + 1, -END + 2), (0, 1), (END, END + 1)]),
                (tuple(range(12)), [(ball, 23 - ball) for ball in range(12)]),
            ]:
                self.assertEqual(pairs(row), wanted)

    def check_pairs(self, row):
        told = pairs(row)
        self.assertIs(type(told), list)
        for pair in told:
            self.assertIs(type(pair), tuple)
            self.assertEqual([type(place) for place in pair], [int, int])
        self.assertEqual(told, sorted(told))
        self.assertEqual(told, [(ball, partner_of(row, ball)) for ball in row])
        self.assertEqual(tuple(sorted(box for ball, box in told)), carried(row))
        for (ball, box), (one, other) in itertools.combinations(told, 2):
            self.assertTrue(ball < one < other < box or ball < box < one < other)

    def test_near(self):
        for row in near_rows():
            self.check_pairs(row)

    def test_far(self):
        with soon(60):
            for row in FAR:
                self.assertTrue(is_row(row))
                self.check_pairs(row)

    def test_the_list_is_the_askers_own(self):
        for row in [(0,), (0, 1, 2, 5), FAR_ROWS[5]]:
            check_own(self, pairs, row)
        told = pairs(())
        told.append(1)
        self.assertEqual(pairs(()), [])


class Depths(unittest.TestCase):

    def test_by_hand(self):
        with soon():
            for row, wanted in [
                ((), []),
                ((0,), [1]),
                ((0, 1), [2, 1]),
                ((0, 2), [1, 1]),
                ((0, 1, 3), [2, 1, 1]),
                ((0, 2, 3), [1, 2, 1]),
                ((0, 1, 2, 5), [3, 2, 1, 1]),
                ((0, 1, 3, 4), [3, 1, 2, 1]),
                ((0, 1, 2, 5, 6), [3, 2, 1, 2, 1]),
                ((-END, -END + 1, END - 1, END), [2, 1, 2, 1]),
                (tuple(range(12)), list(range(12, 0, -1))),
            ]:
                self.assertEqual(depths(row), wanted)

    def check_depths(self, row):
        told = depths(row)
        check_numbers(self, told)
        partners = [(ball, partner_of(row, ball)) for ball in row]
        self.assertEqual(told, [depth_of(partners, pair) for pair in partners])
        counts = counts_by_gaps(row)
        self.assertEqual([told.count(depth) for depth in range(1, len(counts) + 1)], counts)
        self.assertEqual(len(told), len(row))

    def test_near(self):
        for row in near_rows():
            self.check_depths(row)

    def test_far(self):
        with soon(60):
            for row in FAR:
                self.check_depths(row)

    def test_the_list_is_the_askers_own(self):
        for row in [(0,), (0, 1, 2, 5), FAR_ROWS[5]]:
            check_own(self, depths, row)
        told = depths(())
        told.append(1)
        self.assertEqual(depths(()), [])


class Peeled(unittest.TestCase):

    def test_by_hand(self):
        with soon():
            for row, wanted in [
                ((), ()),
                ((0,), ()),
                ((END,), ()),
                ((0, 2, 4), ()),
                ((0, 1), (0,)),
                ((5, 6, 7), (5, 6)),
                ((0, 1, 3), (0,)),
                ((0, 2, 3), (0,)),
                ((0, 1, 2, 5), (0, 1)),
                ((0, 1, 3, 4), (0, 1)),
                ((0, 3, 4), (1,)),
                ((-5, -4, -2, 10, 11, 12), (-5, 6, 7)),
                ((-END, -END + 1, END - 1, END), (-END, END - 3)),
                ((-END, END - 1, END), (END - 3,)),
                ((0, 1, 2, 400000000, 400000001), (0, 1, 399999998)),
                (tuple(range(END - 11, END + 1)), tuple(range(END - 11, END))),
                (tuple(range(-END, -END + 12)), tuple(range(-END, -END + 11))),
            ]:
                self.assertEqual(peeled(row), wanted, row)

    def check_by_pairs(self, row):
        partners = [(ball, partner_of(row, ball)) for ball in row]
        out = {place for pair in partners if depth_of(partners, pair) == 1 for place in pair}
        told = peeled(row)
        check_row(self, told)
        self.assertEqual(told, tuple(
            place - sum(1 for gone in out if gone < place) for place in row if place not in out))

    def check_till_none_is_left(self, row):
        wanted = lengths_by_counts(counts_by_gaps(row))
        turns = 0
        while row:
            self.assertEqual(lengths(row), wanted)
            row = peeled(row)
            check_row(self, row)
            wanted = tuple(length - 1 for length in wanted if length > 1)
            turns += 1
            self.assertLessEqual(turns, 12)
        self.assertEqual((row, wanted), ((), ()))

    def test_near(self):
        for row in near_rows():
            if row:
                self.assertEqual(peeled(row), peeled_by_boxes(row), row)
            self.check_by_pairs(row)
            self.check_till_none_is_left(row)

    def test_small_rows_somewhere(self):
        for row in small_rows(8):
            for far in (-END + 4, END - 3):
                moved = tuple(place + far for place in row)
                self.assertEqual(peeled(moved), tuple(place + far for place in peeled(row)))

    def test_far(self):
        with soon(60):
            for row in FAR:
                self.check_by_pairs(row)
                self.check_till_none_is_left(row)

    def test_asked_again(self):
        rows = [(0, 1, 2, 5), (), (3,), FAR_ROWS[5]]
        first = [peeled(row) for row in rows]
        self.assertEqual([peeled(row) for row in reversed(rows)], first[::-1])


if __name__ == "__main__":
    unittest.main()
