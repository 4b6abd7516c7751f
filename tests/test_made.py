"""Promises 80 and 81, and what 1 says of them."""

import collections
import itertools
import math
import unittest

from boxballs.errors import NoNumber
from boxballs.free import blocks, is_free
from boxballs.made import all_rows, by_lengths, free_row
from boxballs.rows import is_row
from boxballs.waves import lengths
from tests.helper import (
    HUGE, NO_NUMBERS, THINGS, check_own, check_refused, check_row, counts_by_signs, lengths_by_counts, rising_sizes,
    row_of_blocks,
)

# Things that are no tuples of lengths or of gaps, whatever stands at the other place.
NO_TUPLES = [thing for thing in NO_NUMBERS + HUGE + [0, 1, 12, [1, 1], {1: 1}] if not isinstance(thing, tuple)]


def gaps_to_try(sizes):
    """Gaps between blocks of these lengths: the least ones, a little more, the greatest ones, and mixed ones."""
    ahead = sizes[:-1]
    yield ahead
    yield tuple(size + 1 for size in ahead)
    yield tuple(100 for size in ahead)
    yield tuple(size + at * 37 % (101 - size) for at, size in enumerate(ahead, 1))
    yield tuple(100 if at % 2 else size for at, size in enumerate(ahead))


def blocks_of(sizes, gaps):
    """The blocks of these lengths with these gaps, from place 0 on."""
    told, start = [], 0
    for size, gap in itertools.zip_longest(sizes, gaps, fillvalue=0):
        told.append((start, size))
        start += size + gap
    return told


def all_free():
    """Lengths and gaps of many free rows."""
    for sizes in rising_sizes(12):
        for gaps in set(gaps_to_try(sizes)):
            yield sizes, gaps


class FreeRow(unittest.TestCase):

    def test_by_hand(self):
        for sizes, gaps, wanted in [
            ((), (), ()),
            ((1,), (), (0,)),
            ((12,), (), tuple(range(12))),
            ((1, 1), (1,), (0, 2)),
            ((1, 2), (1,), (0, 2, 3)),
            ((1, 2), (100,), (0, 101, 102)),
            ((2, 2), (2,), (0, 1, 4, 5)),
            ((1, 2, 3), (1, 5), (0, 2, 3, 9, 10, 11)),
            ((6, 6), (6,), (0, 1, 2, 3, 4, 5, 12, 13, 14, 15, 16, 17)),
            ((1,) * 12, (1,) * 11, tuple(range(0, 24, 2))),
            ((1,) * 12, (100,) * 11, tuple(range(0, 1212, 101))),
            ((1, 1, 2, 3, 5), (1, 2, 2, 3), (0, 2, 5, 6, 9, 10, 11, 15, 16, 17, 18, 19)),
        ]:
            self.assertEqual(free_row(sizes, gaps), wanted)

    def test_free_with_these_blocks_and_lengths(self):
        many = set()
        for sizes, gaps in all_free():
            row = free_row(sizes, gaps)
            check_row(self, row)
            self.assertIs(is_row(row), True)
            self.assertEqual(row, row_of_blocks(blocks_of(sizes, gaps)))
            self.assertIs(is_free(row), True)
            self.assertEqual(blocks(row), tuple(blocks_of(sizes, gaps)))
            self.assertEqual(lengths(row), sizes[::-1])
            many.add(len(sizes))
        self.assertEqual(many, set(range(1, 13)))

    def test_each_gap(self):
        for size in range(1, 7):
            for gap in range(size, 101):
                self.assertEqual(blocks(free_row((size, size), (gap,))), ((0, size), (size + gap, size)))

    def test_gaps_passed_by_one(self):
        for sizes in rising_sizes(12):
            for at, size in enumerate(sizes[:-1]):
                for wrong in (size - 1, 101):
                    gaps = sizes[:at] + (wrong,) + sizes[at + 1:-1]
                    check_refused(self, NoNumber, free_row, sizes, gaps)

    def test_one_gap_more_or_fewer(self):
        for sizes in rising_sizes(12):
            gaps = sizes[:-1]
            for wrong in [gaps + (12,), gaps + (100,), gaps + (12, 12)] + [gaps[:-1]] * (len(gaps) > 0):
                check_refused(self, NoNumber, free_row, sizes, wrong)
        for wrong in [(0,), (1,), (100,), (1, 1)]:
            check_refused(self, NoNumber, free_row, (), wrong)

    def test_lengths_that_fall(self):
        for sizes in rising_sizes(12):
            for at in range(len(sizes) - 1):
                if sizes[at] < sizes[at + 1]:
                    fallen = sizes[:at] + (sizes[at + 1], sizes[at]) + sizes[at + 2:]
                    check_refused(self, NoNumber, free_row, fallen, (50,) * (len(sizes) - 1))

    def test_lengths_beyond_the_bounds(self):
        for sizes in [(0,), (-1,), (13,), (100,), (0, 1), (0, 0), (-1, 1), (1, 13), (0, 12), (-1, 12), (-5, 6, 7)]:
            check_refused(self, NoNumber, free_row, sizes, (50,) * (len(sizes) - 1))
        for huge in HUGE:
            check_refused(self, NoNumber, free_row, (huge,), ())
            check_refused(self, NoNumber, free_row, (1, huge), (1,))

    def test_thirteen_together(self):
        tried = 0
        for sizes in rising_sizes(13):
            if sum(sizes) == 13:
                check_refused(self, NoNumber, free_row, sizes, (50,) * (len(sizes) - 1))
                tried += 1
        self.assertGreater(tried, 90)
        check_refused(self, NoNumber, free_row, (12, 12), (12,))
        check_refused(self, NoNumber, free_row, (1,) * 399, (1,) * 398)

    def test_things_in_the_tuples_stead(self):
        for wrong in NO_TUPLES:
            for arguments in [(wrong, ()), ((), wrong), ((1,), wrong), ((1, 1), wrong), (wrong, (1,)), (wrong, wrong),
                              ((0,), wrong), (wrong, (0,))]:
                check_refused(self, NoNumber, free_row, *arguments)
        for wrong in THINGS:
            check_refused(self, NoNumber, free_row, wrong, wrong)
            check_refused(self, NoNumber, free_row, wrong, ())
            check_refused(self, NoNumber, free_row, (1, 1), wrong)

    def test_lists_in_the_tuples_stead(self):
        for arguments in [([], ()), ((), []), ([], []), ([1], ()), ((1,), []), ([1, 2], (1,)), ((1, 2), [1])]:
            check_refused(self, NoNumber, free_row, *arguments)

    def test_things_in_the_tuples(self):
        for wrong in NO_NUMBERS:
            for arguments in [((wrong,), ()), ((wrong, 2), (2,)), ((1, wrong), (1,)), ((1, 1), (wrong,)),
                              ((1, 1, 1), (1, wrong)), ((1, 1, 1), (wrong, 1)), ((1, wrong, 2), (2, 2)),
                              ((wrong, wrong), (wrong,)), ((wrong, wrong), (2,))]:
                check_refused(self, NoNumber, free_row, *arguments)

    def test_truths_behind_the_equal_numbers(self):
        first = free_row((1, 1), (1,))
        check_refused(self, NoNumber, free_row, (True, 1), (1,))
        check_refused(self, NoNumber, free_row, (1, True), (1,))
        check_refused(self, NoNumber, free_row, (1, 1), (True,))
        self.assertEqual(free_row((1, 1), (1,)), first)


class AllRows(unittest.TestCase):

    def test_by_hand(self):
        for boxes, balls, wanted in [
            (0, 0, [()]),
            (1, 0, [()]),
            (10, 0, [()]),
            (1, 1, [(0,)]),
            (3, 1, [(0,), (1,), (2,)]),
            (3, 2, [(0, 1), (0, 2), (1, 2)]),
            (3, 3, [(0, 1, 2)]),
            (10, 10, [tuple(range(10))]),
        ]:
            self.assertEqual(all_rows(boxes, balls), wanted)

    def test_all(self):
        for boxes in range(11):
            for balls in range(boxes + 1):
                told = all_rows(boxes, balls)
                self.assertIs(type(told), list)
                self.assertEqual(len(told), math.comb(boxes, balls))
                self.assertEqual(told, sorted(set(told)))
                for row in told:
                    check_row(self, row)
                    self.assertEqual(len(row), balls)
                    self.assertTrue(all(0 <= place < boxes for place in row))
                self.assertEqual(told, list(itertools.combinations(range(boxes), balls)))

    def test_the_lists_are_the_askers_own(self):
        for boxes, balls in [(0, 0), (1, 1), (4, 2), (10, 5)]:
            check_own(self, all_rows, boxes, balls)
            check_own(self, by_lengths, boxes, balls)


class ByLengths(unittest.TestCase):

    def test_by_hand(self):
        for boxes, balls, wanted in [
            (0, 0, [((), 1)]),
            (10, 0, [((), 1)]),
            (1, 1, [((1,), 1)]),
            (10, 1, [((1,), 10)]),
            (3, 2, [((1, 1), 1), ((2,), 2)]),
            (4, 2, [((1, 1), 3), ((2,), 3)]),
            (10, 10, [((10,), 1)]),
        ]:
            self.assertEqual(by_lengths(boxes, balls), wanted)

    def test_against_lengths_of_all(self):
        for boxes in range(11):
            for balls in range(boxes + 1):
                told = by_lengths(boxes, balls)
                rows = itertools.combinations(range(boxes), balls)
                found = collections.Counter(lengths_by_counts(counts_by_signs(row)) for row in rows)
                self.assertEqual(told, sorted(found.items()))
                self.assertEqual(found, collections.Counter(lengths(row) for row in all_rows(boxes, balls)))
                self.assertIs(type(told), list)
                for pair in told:
                    self.assertIs(type(pair), tuple)
                    self.assertEqual([type(part) for part in pair], [tuple, int])
                self.assertEqual(sum(many for sizes, many in told), math.comb(boxes, balls))


class NoNumbersOfBoxesAndBalls(unittest.TestCase):

    def test_bounds(self):
        for boxes in range(-3, 15):
            for balls in range(-3, 17):
                if not 0 <= boxes <= 10 or not 0 <= balls <= boxes:
                    check_refused(self, NoNumber, all_rows, boxes, balls)
                    check_refused(self, NoNumber, by_lengths, boxes, balls)

    def test_no_number(self):
        for wrong in HUGE + NO_NUMBERS + [thing for thing in THINGS if thing not in (0, 1)]:
            for arguments in [(wrong, 0), (wrong, 1), (0, wrong), (5, wrong), (10, wrong), (wrong, wrong), (-1, wrong),
                              (11, wrong), (wrong, -1), (wrong, 11)]:
                check_refused(self, NoNumber, all_rows, *arguments)
                check_refused(self, NoNumber, by_lengths, *arguments)

    def test_truths_behind_the_equal_numbers(self):
        for function in (all_rows, by_lengths):
            first = [function(1, 0), function(1, 1), function(3, 1)]
            for arguments in [(True, 0), (True, 1), (1, False), (1, True), (3, True), (True, True), (False, False)]:
                check_refused(self, NoNumber, function, *arguments)
            self.assertEqual([function(1, 0), function(1, 1), function(3, 1)], first)


if __name__ == "__main__":
    unittest.main()
