"""Promises 50, 51, 52 and 53, and what 1 says of them."""

import itertools
import unittest

from boxballs.errors import NoNumber, NotFree, TooLong
from boxballs.free import blocks, free_later, is_free, meeting, steps_to_free
from boxballs.rows import carried, is_row, later
from tests.helper import (
    END, FAR_ROWS, HUGE, NO_NUMBERS, blocks_by_signs, check_refused, check_row, counts_by_gaps,
    lengths_by_counts, near_rows, rising_sizes, row_of_blocks, soon,
)

# No free rows because no rows at all.
NO_ROWS = [
    None, True, False, 0, 1, -3, "", "none", "0:o", [], [0], [0, 1], {}, {0: 1}, (True,), (False,), (0, True), (None,),
    ("a",), (0, "1"), ((),), ((0, 1),), ([0],), (1, 0), (0, 0), (0, 2, 1), (END + 1,), (-END - 1,), tuple(range(13)),
    ((0, 1), (5, 2)), ({},), (0, None), [[[[[0]]]]], {(0, 1): [2, {"a": (3,)}]},
] + HUGE


def free_by_signs(row):
    """Whether a near row is free, as the document tells it."""
    found = blocks_by_signs(row)
    for (first, many), (start, following) in itertools.pairwise(found):
        if following < many or start - (first + many) < many:
            return False
    return True


def blocks_with_gaps(sizes, extra, start=0):
    """Blocks of these lengths, each gap so much longer than the block ahead of it."""
    told = []
    for size in sizes:
        told.append((start, size))
        start += size + size + extra
    return tuple(told)


class IsFree(unittest.TestCase):

    def test_by_hand(self):
        for row, wanted in [
            ((), True),
            ((0,), True),
            ((-END,), True),
            ((END,), True),
            ((-END, END), True),
            ((0, 2), True),
            ((0, 1), True),
            ((0, 2, 3), True),
            ((0, 3, 4), True),
            ((0, 1, 3), False),
            ((0, 1, 4), False),
            ((0, 1, 3, 4), False),
            ((0, 1, 4, 5), True),
            ((0, 1, 5, 6), True),
            ((0, 1, 3, 4, 5), False),
            ((0, 1, 4, 5, 6), True),
            ((0, 2, 3, 6, 7, 8), True),
            ((0, 2, 3, 5, 6, 7), False),
            ((0, 2, 3, 6, 7, 10), False),
            ((0, 1, 2, 5), False),
            ((0, 1, 500000000, 900000000), False),
            ((0, 500000000, 900000000, 900000001), True),
            ((-END, -END + 1, END - 1, END), True),
            (tuple(range(12)), True),
            (tuple(range(0, 24, 2)), True),
            (tuple(range(END - 11, END + 1)), True),
        ]:
            with soon():
                self.assertIs(is_free(row), wanted, row)

    def test_against_signs(self):
        for row in near_rows():
            self.assertIs(is_free(row), free_by_signs(row), row)

    def test_gaps(self):
        for sizes in rising_sizes(12):
            for extra, start in itertools.product((0, 1, 7, 50000000), (-END, -3, 0)):
                found = blocks_with_gaps(sizes, extra, start)
                self.assertIs(is_free(row_of_blocks(found)), True)
                self.assertEqual(blocks(row_of_blocks(found)), found)
            # One gap, whichever it is, one box too short.
            for at in range(1, len(sizes)):
                found = [(first - (place >= at), many)
                         for place, (first, many) in enumerate(blocks_with_gaps(sizes, 0))]
                if sizes[at - 1] > 1:
                    self.assertIs(is_free(row_of_blocks(found)), False, found)
                    check_refused(self, NotFree, blocks, row_of_blocks(found))

    def test_blocks_that_fall(self):
        for sizes in rising_sizes(9):
            for at in range(len(sizes) - 1):
                fallen = list(sizes)
                fallen[at], fallen[at + 1] = sizes[at + 1], sizes[at]
                if sizes[at] < sizes[at + 1]:
                    row = row_of_blocks(blocks_with_gaps(fallen, 40))
                    self.assertIs(is_free(row), False)
                    check_refused(self, NotFree, blocks, row)

    def test_for_ever(self):
        for row in near_rows():
            moved = [(first + many, many) for first, many in blocks_by_signs(row)]
            if is_free(row):
                self.assertEqual(carried(row), row_of_blocks(moved))
                self.assertIs(is_free(carried(row)), True)


class Blocks(unittest.TestCase):

    def test_by_hand(self):
        for row, wanted in [
            ((), ()),
            ((0,), ((0, 1),)),
            ((-END, END), ((-END, 1), (END, 1))),
            ((0, 2, 3), ((0, 1), (2, 2))),
            ((-7, -5, -4, -1, 0, 1), ((-7, 1), (-5, 2), (-1, 3))),
            ((-END, -END + 1, END - 1, END), ((-END, 2), (END - 1, 2))),
            (tuple(range(12)), ((0, 12),)),
            (tuple(range(0, 24, 2)), tuple((first, 1) for first in range(0, 24, 2))),
        ]:
            with soon():
                self.assertEqual(blocks(row), wanted)

    def test_against_signs(self):
        for row in near_rows():
            if not free_by_signs(row):
                check_refused(self, NotFree, blocks, row)
                continue
            told = blocks(row)
            self.assertIs(type(told), tuple)
            for block in told:
                self.assertIs(type(block), tuple)
                self.assertEqual([type(number) for number in block], [int, int])
            self.assertEqual(list(told), blocks_by_signs(row))

    def test_not_free(self):
        for row in [(0, 1, 3), (0, 1, 2, 5), (0, 1, 500000000), (-END, -END + 1, END), (0, 1, 3, 4)]:
            with soon():
                check_refused(self, NotFree, blocks, row)

    def test_things_that_are_no_rows(self):
        for thing in NO_ROWS:
            check_refused(self, NotFree, blocks, thing)

    def test_truths_behind_the_equal_numbers(self):
        self.assertEqual(blocks((0, 1)), ((0, 2),))
        check_refused(self, NotFree, blocks, (False, True))
        self.assertEqual(blocks((0, 1)), ((0, 2),))


class FreeLater(unittest.TestCase):

    def test_by_hand(self):
        for row, steps, wanted in [
            ((), 0, ()),
            ((), 1000000, ()),
            ((0,), 0, (0,)),
            ((0,), 1, (1,)),
            ((0,), 1000000, (1000000,)),
            ((0, 2, 3), 1, (1, 4, 5)),
            ((0, 2, 3), 1000000, (1000000, 2000002, 2000003)),
            ((-END, END), 1000000, (-END + 1000000, END + 1000000)),
            ((END - 1, END), 1, (END + 1, END + 2)),
            (tuple(range(END - 11, END + 1)), 1000000, tuple(range(END + 11999989, END + 12000001))),
            (tuple(range(12)), 999999, tuple(range(11999988, 12000000))),
        ]:
            with soon(5):
                self.assertEqual(free_later(row, steps), wanted)

    def test_against_steps(self):
        for row in near_rows():
            if free_by_signs(row):
                there = row
                for steps in range(13):
                    self.assertEqual(free_later(row, steps), there)
                    there = carried(there)
                self.assertEqual(free_later(row, 60), later(row, 60))

    def test_against_more_steps(self):
        for row in [(0, 2, 3, 6, 7, 8), (-END, 5, 600000000, 600000001), (END - 5, END - 1, END)]:
            there = row
            for steps in range(1500):
                self.assertEqual(free_later(row, steps), there)
                there = carried(there)

    def test_one_by_one_would_be_too_long(self):
        row = (0, 2, 3, 6, 7, 8, 12, 13, 14, 15)
        with soon(10):
            for turn in range(300):
                told = free_later(row, 1000000 - turn)
                check_row(self, told)
                self.assertEqual(blocks(told), tuple(
                    (first + many * (1000000 - turn), many) for first, many in blocks(row)))

    def test_no_number(self):
        wrong = [-1, -2, 1000001, 1000002, END, -END] + HUGE + NO_NUMBERS
        for row in [(), (0,), (0, 2, 3), (-END, END)]:
            for steps in wrong:
                check_refused(self, NoNumber, free_later, row, steps)

    def test_truths_behind_the_equal_numbers(self):
        free_later((0,), 0)
        free_later((0,), 1)
        check_refused(self, NoNumber, free_later, (0,), False)
        check_refused(self, NoNumber, free_later, (0,), True)

    def test_not_free_comes_first(self):
        rows = [(0, 1, 3), (0, 1, 2, 5), (-END, -END + 1, END)]
        for row in rows + NO_ROWS:
            for steps in [0, 1, 1000000, -1, 1000001] + HUGE + NO_NUMBERS:
                check_refused(self, NotFree, free_later, row, steps)


class StepsToFree(unittest.TestCase):

    def test_by_hand(self):
        for row, wanted in [
            ((), 0),
            ((0,), 0),
            ((-END, END), 0),
            ((0, 2, 3), 0),
            (tuple(range(12)), 0),
            ((0, 1, 3), 1),
            ((0, 1, 2, 5), 2),
            # A block of two gains one box by each step.
            ((0, 1, 61), 59),
            ((0, 1, 62), 60),
            ((END - 2, END - 1, END), 0),
            ((-END, -END + 1, -END + 62), 60),
            ((END - 62, END - 61, END), 60),
            ((0, 1, 2, 121), 60),
            ((0, 1, 2, 122), 60),
        ]:
            with soon():
                self.assertEqual(steps_to_free(row), wanted, row)
                self.assertIs(type(steps_to_free(row)), int)

    def test_too_long(self):
        for row in [
            (0, 1, 63), (0, 1, 64), (0, 1, 200), (0, 1, 2, 123), (-END, -END + 1, -END + 63), (END - 63, END - 62, END),
            (0, 1, 500000000), (-END, -END + 1, END), (-END, -END + 1, 0, END), (0, 1, 2, 900000000, 900000001),
            FAR_ROWS[3], FAR_ROWS[5],
        ]:
            with soon():
                check_refused(self, TooLong, steps_to_free, row)

    def test_against_steps(self):
        for row in near_rows():
            there, steps = row, 0
            while not free_by_signs(there) and steps <= 60:
                there, steps = carried(there), steps + 1
            if steps > 60:
                check_refused(self, TooLong, steps_to_free, row)
                continue
            self.assertEqual(steps_to_free(row), steps, row)
            found = blocks(later(row, steps))
            self.assertEqual(
                tuple(many for first, many in reversed(found)), lengths_by_counts(counts_by_gaps(row)))
            self.assertEqual(steps_to_free(there), 0)

    def test_some_rows_of_all_lengths_of_time(self):
        told = {steps_to_free((0, 1, 2 + gap)) for gap in range(1, 61)}
        self.assertEqual(told, set(range(1, 61)))

    def test_asked_again(self):
        check_refused(self, TooLong, steps_to_free, (0, 1, 63))
        self.assertEqual(steps_to_free((0, 1, 62)), 60)
        check_refused(self, TooLong, steps_to_free, (0, 1, 63))


class Meeting(unittest.TestCase):

    def test_by_hand(self):
        # oo..o, then ..oo.o shifted: (0, 1, 4), (2, 3, 5), (4, 6, 7)
        self.assertEqual(meeting(2, 1, 2), (2, (4, 6, 7)))
        # (0, 1, 5), (2, 3, 6), (4, 5, 7), (6, 8, 9)
        self.assertEqual(meeting(2, 1, 3), (3, (6, 8, 9)))
        # (0, 1, 2, 6), (3, 4, 5, 7), (6, 8, 9, 10)
        self.assertEqual(meeting(3, 1, 3), (2, (6, 8, 9, 10)))

    def test_against_steps(self):
        for longer in range(2, 9):
            for shorter in range(1, longer):
                for gap in range(longer, 31):
                    start = longer + gap
                    there, steps = row_of_blocks([(0, longer), (start, shorter)]), 0
                    while not free_by_signs(there):
                        there, steps = carried(there), steps + 1
                    told = meeting(longer, shorter, gap)
                    self.assertEqual(told, (steps, there))
                    self.check_told(longer, shorter, gap, told)

    def check_told(self, longer, shorter, gap, told):
        self.assertIs(type(told), tuple)
        self.assertIs(type(told[0]), int)
        check_row(self, told[1])
        steps, row = told
        # Up to 15 balls here: it may be more than a row has.
        self.assertEqual(is_row(row), longer + shorter <= 12)
        self.assertEqual(row, row_of_blocks([
            (longer + gap + shorter * steps - 2 * shorter, shorter), (longer * steps + 2 * shorter, longer)]))

    def test_bounds(self):
        self.assertEqual(meeting(2, 1, 30), (30, row_of_blocks([(60, 1), (62, 2)])))
        self.assertEqual(len(meeting(8, 7, 30)[1]), 15)
        for longer, shorter, gap in [
            (1, 1, 5), (1, 0, 5), (9, 1, 10), (9, 8, 30), (10, 1, 30), (0, 0, 0), (-2, -3, -1),
            (2, 2, 5), (2, 3, 5), (2, 0, 5), (2, -1, 5), (8, 8, 20), (8, 9, 20), (8, 0, 20), (5, 5, 5),
            (2, 1, 1), (2, 1, 0), (2, 1, -1), (2, 1, 31), (8, 7, 7), (8, 7, 31), (8, 1, 7), (5, 2, 4), (5, 2, 31),
        ]:
            check_refused(self, NoNumber, meeting, longer, shorter, gap)

    def test_each_bound_passed_by_one(self):
        for longer in range(2, 9):
            for shorter in range(1, longer):
                check_refused(self, NoNumber, meeting, longer, shorter, longer - 1)
                check_refused(self, NoNumber, meeting, longer, shorter, 31)
            for gap in range(longer, 31):
                check_refused(self, NoNumber, meeting, longer, 0, gap)
                check_refused(self, NoNumber, meeting, longer, longer, gap)

    def test_no_number(self):
        for wrong in HUGE + NO_NUMBERS:
            for arguments in [
                (wrong, 1, 5), (3, wrong, 5), (3, 1, wrong), (wrong, wrong, 5), (wrong, 1, wrong), (3, wrong, wrong),
                (wrong, wrong, wrong), (9, wrong, 5), (3, 3, wrong), (wrong, 0, 31),
            ]:
                check_refused(self, NoNumber, meeting, *arguments)

    def test_truths_behind_the_equal_numbers(self):
        first = meeting(2, 1, 2)
        check_refused(self, NoNumber, meeting, 2, True, 2)
        self.assertEqual(meeting(2, 1, 2), first)


if __name__ == "__main__":
    unittest.main()
