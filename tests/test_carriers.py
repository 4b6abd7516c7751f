"""Promises 20 and 21, and what 1 says of them."""

import unittest

from boxballs.carriers import carried_by, taken_by, takings, undone_by
from boxballs.errors import NoNumber
from boxballs.rows import carried, undone
from tests.helper import (
    END, FAR_ROWS, HUGE, NO_NUMBERS, box_by_box, check_numbers, check_refused, check_row, mixed_rows,
    near_rows, small_rows, soon,
)

SIZES = range(1, 13)


class SmallCarrier(unittest.TestCase):

    def test_by_hand(self):
        for row, size, behind, taken in [
            ((), 1, (), 0),
            ((), 12, (), 0),
            ((0,), 1, (1,), 1),
            ((0,), 12, (1,), 1),
            ((0, 1), 1, (1, 2), 1),
            ((0, 1, 2, 5), 1, (1, 2, 3, 6), 2),
            ((0, 1, 2, 5), 2, (2, 3, 4, 6), 3),
            ((0, 1, 2, 5), 3, (3, 4, 6, 7), 4),
            ((0, 1, 2, 5), 4, (3, 4, 6, 7), 4),
            ((-2, -1, 0, 1, 3), 2, (0, 1, 2, 4, 5), 3),
            ((0, 1, 3, 4), 2, (2, 4, 5, 6), 3),
        ]:
            self.assertEqual(carried_by(row, size), behind)
            self.assertEqual(undone_by(behind, size), row)
            self.assertEqual(taken_by(row, size), taken)
        self.assertEqual(undone_by((0, 1, 2, 5), 1), (-1, 0, 1, 4))
        self.assertEqual(undone_by((0, 1, 2, 5), 2), (-2, -1, 0, 4))

    def test_box_by_box(self):
        for row in near_rows():
            for size in SIZES:
                behind, taken, loads = box_by_box(row, size)
                self.assertEqual(carried_by(row, size), behind, (row, size))
                self.assertEqual(taken_by(row, size), taken, (row, size))
                self.assertIs(type(taken_by(row, size)), int)

    def test_each_undoes_the_other(self):
        with soon(60):
            for row in list(near_rows()) + FAR_ROWS:
                for size in SIZES:
                    ahead, behind = undone_by(row, size), carried_by(row, size)
                    check_row(self, ahead)
                    check_row(self, behind)
                    self.assertEqual(undone_by(behind, size), row)
                    self.assertEqual(carried_by(ahead, size), row)

    def test_large_enough_is_the_carrier_itself(self):
        with soon(60):
            for row in list(near_rows()) + FAR_ROWS:
                for size in range(max(len(row), 1), 13):
                    self.assertEqual(carried_by(row, size), carried(row))
                    self.assertEqual(undone_by(row, size), undone(row))
                    self.assertEqual(taken_by(row, size), len(row))

    def test_far_gaps_and_bounds(self):
        with soon():
            row = (-END, -END + 1, -END + 2, 0, 1, END - 1, END)
            self.assertEqual(carried_by(row, 1), (-END + 1, -END + 2, -END + 3, 1, 2, END, END + 1))
            self.assertEqual(carried_by(row, 2), (-END + 2, -END + 3, -END + 4, 2, 3, END + 1, END + 2))
            self.assertEqual(undone_by(row, 1), (-END - 1, -END, -END + 1, -1, 0, END - 2, END - 1))
            self.assertEqual(undone_by(row, 2), (-END - 2, -END - 1, -END, -2, -1, END - 3, END - 2))
            self.assertEqual([taken_by(row, size) for size in (1, 2, 3, 12)], [3, 6, 7, 7])
            self.assertEqual(carried_by((END,), 1), (END + 1,))
            self.assertEqual(undone_by((-END,), 12), (-END - 1,))

    def test_no_number(self):
        wrong = [0, 13, -1, -12, 14, 100, -END, END] + HUGE + NO_NUMBERS
        for function in (carried_by, undone_by, taken_by):
            for row in [(), (0,), (0, 1, 2, 5), tuple(range(12)), FAR_ROWS[5]]:
                for size in wrong:
                    check_refused(self, NoNumber, function, row, size)

    def test_truths_behind_the_equal_numbers(self):
        for function in (carried_by, undone_by, taken_by):
            first = function((0, 1), 1)
            check_refused(self, NoNumber, function, (0, 1), True)
            check_refused(self, NoNumber, function, (0, 1), False)
            self.assertEqual(function((0, 1), 1), first)


class WhatStays(unittest.TestCase):

    def test_whichever_is_first(self):
        with soon(60):
            for row in list(small_rows(7)) + list(mixed_rows(36)) + FAR_ROWS:
                for one in SIZES:
                    for other in range(1, one):
                        self.assertEqual(
                            carried_by(carried_by(row, one), other), carried_by(carried_by(row, other), one))

    def test_takings_stay(self):
        with soon(60):
            for row in list(small_rows(7)) + list(mixed_rows(120)) + FAR_ROWS:
                told = takings(row)
                self.assertEqual(takings(carried(row)), told)
                for size in SIZES:
                    self.assertEqual(takings(carried_by(row, size)), told)
                    self.assertEqual(takings(undone_by(row, size)), told)

    def test_a_block_alone(self):
        for many in range(1, 13):
            for first in (-END, -7, 0, END - 11):
                block = tuple(range(first, first + many))
                for size in SIZES:
                    moved = min(many, size)
                    self.assertEqual(carried_by(block, size), tuple(place + moved for place in block))
                    self.assertEqual(undone_by(block, size), tuple(place - moved for place in block))
                    self.assertEqual(taken_by(block, size), moved)


class Takings(unittest.TestCase):

    def test_by_hand(self):
        for row, wanted in [
            ((), []),
            ((0,), [1]),
            ((END,), [1]),
            ((-END, END), [2, 2]),
            ((0, 1), [1, 2]),
            ((0, 2), [2, 2]),
            ((0, 1, 2, 5), [2, 3, 4, 4]),
            (tuple(range(12)), list(range(1, 13))),
            (tuple(range(0, 24, 2)), [12] * 12),
            ((-END, -END + 1, -END + 2, 0, 1, END - 1, END), [3, 6, 7, 7, 7, 7, 7]),
        ]:
            with soon():
                self.assertEqual(takings(row), wanted)

    def test_of_every_size(self):
        with soon(60):
            for row in list(near_rows()) + FAR_ROWS:
                told = takings(row)
                check_numbers(self, told)
                self.assertEqual(told, [taken_by(row, size) for size in range(1, len(row) + 1)])

    def test_the_list_is_the_askers_own(self):
        for row in [(), (0,), (0, 1, 2, 5)]:
            first, second = takings(row), takings(row)
            wanted = list(second)
            self.assertIsNot(first, second)
            first.insert(0, 99)
            self.assertEqual(second, wanted)
            self.assertEqual(takings(row), wanted)


if __name__ == "__main__":
    unittest.main()
