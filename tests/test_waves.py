"""Promises 30, 31 and 32, what 21 says together with 30, and what 1 says of them."""

import itertools
import unittest

from boxballs.carriers import carried_by, taken_by, takings, undone_by
from boxballs.rows import carried, is_row, undone
from boxballs.waves import lengths, one_making, waves
from tests.helper import (
    END, FAR_ROWS, check_own, check_row, counts_by_gaps, counts_by_signs, lengths_by_counts, mixed_rows,
    near_rows, row_of_blocks, small_rows, soon, stretched,
)

SIZES = range(1, 13)


def runs_of(boxes):
    """The runs of boxes (place, has a ball), from the first ball on."""
    boxes = list(itertools.dropwhile(lambda box: not box[1], boxes))
    return [list(run) for has_ball, run in itertools.groupby(boxes, lambda box: box[1])]


def waves_by_boxes(row):
    """The waves of a near row as the document tells them, all its boxes being looked at."""
    boxes = [(place, place in row) for place in range(row[0], row[-1] + 3 * len(row) + 9)] if row else []
    told = []
    while any(has_ball for place, has_ball in boxes):
        for run, behind in itertools.pairwise(runs_of(boxes)):
            if len(run) <= len(behind):
                out = run + behind[:len(run)]
                break
        told.append(tuple(tuple(place for place, ball in out if ball == wanted) for wanted in (True, False)))
        boxes = [box for box in boxes if box not in out]
    return told


class Lengths(unittest.TestCase):

    def test_by_hand(self):
        with soon():
            for row, wanted in [
                ((), ()),
                ((0,), (1,)),
                ((END,), (1,)),
                ((-END,), (1,)),
                ((0, 1, 2, 5), (3, 1)),
                ((3, 4, 6, 7), (3, 1)),
                ((5, 8, 9, 10), (3, 1)),
                ((0, 2), (1, 1)),
                ((0, 1), (2,)),
                ((0, 1, 3), (2, 1)),
                ((0, 2, 3), (2, 1)),
                ((0, 1, 3, 4), (3, 1)),
                ((0, 1, 2, 4, 5, 6, 9), (5, 1, 1)),
                (tuple(range(12)), (12,)),
                (tuple(range(0, 24, 2)), (1,) * 12),
                ((-END, END), (1, 1)),
                ((-END, -END + 1, -END + 2, 0, 1, END - 1, END), (3, 2, 2)),
                ((0, 1, 500000000, 900000000), (2, 1, 1)),
            ]:
                self.assertEqual(lengths(row), wanted, row)

    def check_kinds(self, row, told):
        self.assertIs(type(told), tuple)
        for length in told:
            self.assertIs(type(length), int)
            self.assertGreaterEqual(length, 1)
        self.assertEqual(list(told), sorted(told, reverse=True))
        self.assertEqual(sum(told), len(row))

    def test_against_taking_out(self):
        for row in near_rows():
            told = lengths(row)
            self.check_kinds(row, told)
            self.assertEqual(counts_by_signs(row), counts_by_gaps(row))
            self.assertEqual(told, lengths_by_counts(counts_by_signs(row)), row)

    def test_how_many_balls(self):
        self.assertEqual({len(row) for row in near_rows()}, set(range(13)))

    def test_far_away_and_far_gaps(self):
        with soon(60):
            rows = FAR_ROWS + [stretched(row, 3)[0] for row in mixed_rows(200)]
            for row in rows:
                self.assertTrue(is_row(row))
                told = lengths(row)
                self.check_kinds(row, told)
                self.assertEqual(told, lengths_by_counts(counts_by_gaps(row)), row)

    def test_the_same_wherever_it_stands(self):
        for row in small_rows(8):
            for far in (-END + 4, -70, 70, END - 3):
                moved = tuple(place + far for place in row)
                self.assertTrue(is_row(moved))
                self.assertEqual(lengths(moved), lengths(row))

    def test_they_stay_by_steps(self):
        with soon(60):
            for row in list(small_rows(8)) + list(mixed_rows(200)) + FAR_ROWS:
                told = lengths(row)
                self.assertEqual(lengths(carried(row)), told)
                self.assertEqual(lengths(undone(row)), told)
                for size in SIZES:
                    self.assertEqual(lengths(carried_by(row, size)), told)
                    self.assertEqual(lengths(undone_by(row, size)), told)

    def test_takings(self):
        with soon(60):
            for row in list(near_rows()) + FAR_ROWS:
                told = lengths(row)
                wanted = [sum(min(length, size) for length in told) for size in SIZES]
                self.assertEqual([taken_by(row, size) for size in SIZES], wanted, row)
                self.assertEqual(takings(row), wanted[:len(row)], row)

    def test_asked_again(self):
        rows = [(0, 1, 2, 5), (), (3,), FAR_ROWS[5]]
        first = [lengths(row) for row in rows]
        self.assertEqual([lengths(row) for row in reversed(rows)], first[::-1])


class OneMaking(unittest.TestCase):

    def test_by_hand(self):
        for one, other, wanted in [
            ((), (), True),
            ((), (0,), False),
            ((0,), (), False),
            ((0,), (END,), True),
            ((0, 1), (0, 2), False),
            ((0, 2), (0, 1), False),
            ((0, 2), (-END, END), True),
            ((0, 1, 2, 5), (3, 4, 6, 7), True),
            ((0, 1, 2, 5), (0, 1, 3, 4), True),
            ((0, 1, 2, 5), (0, 1, 4, 5), False),
            ((0, 1, 2, 5), (0, 1, 2), False),
            ((0, 1, 3), (0, 3, 4), True),
            ((0, 1, 2, 5, 7), (0, 1, 2, 5, 6), False),
            (tuple(range(12)), tuple(range(-END, -END + 12)), True),
            (tuple(range(12)), tuple(range(0, 24, 2)), False),
        ]:
            with soon():
                self.assertIs(one_making(one, other), wanted, (one, other))

    def test_each_with_each(self):
        rows = list(small_rows(6)) + FAR_ROWS
        making = {row: lengths_by_counts(counts_by_gaps(row)) for row in rows}
        with soon(60):
            for one, other in itertools.product(rows, repeat=2):
                self.assertIs(one_making(one, other), making[one] == making[other])

    def test_steps(self):
        for row in mixed_rows(100):
            self.assertIs(one_making(row, carried(row)), True)
            self.assertIs(one_making(undone(row), carried_by(row, 2)), True)
            self.assertIs(one_making(row, row + (row[-1] + 1,)), False)


class Waves(unittest.TestCase):

    def test_by_hand(self):
        with soon():
            for row, wanted in [
                ((), []),
                ((0,), [((0,), (1,))]),
                ((END,), [((END,), (END + 1,))]),
                ((-END,), [((-END,), (-END + 1,))]),
                ((0, 1), [((0, 1), (2, 3))]),
                ((0, 2), [((0,), (1,)), ((2,), (3,))]),
                ((0, 1, 3), [((3,), (2,)), ((0, 1), (4, 5))]),
                ((0, 1, 4), [((0, 1), (2, 3)), ((4,), (5,))]),
                ((0, 1, 2, 5), [((5,), (6,)), ((0, 1, 2), (3, 4, 7))]),
                ((0, 1, 3, 4), [((3,), (2,)), ((0, 1, 4), (5, 6, 7))]),
                ((0, 1, 2, 4, 5, 6, 9),
                 [((4,), (3,)), ((9,), (10,)), ((0, 1, 2, 5, 6), (7, 8, 11, 12, 13))]),
                ((-END, END), [((-END,), (-END + 1,)), ((END,), (END + 1,))]),
                ((-END, -END + 1, END - 2, END - 1, END),
                 [((-END, -END + 1), (-END + 2, -END + 3)), ((END - 2, END - 1, END), (END + 1, END + 2, END + 3))]),
                ((0, 1, 500000000, 500000001, 500000003),
                 [((0, 1), (2, 3)), ((500000003,), (500000002,)),
                  ((500000000, 500000001), (500000004, 500000005))]),
                (tuple(range(12)), [(tuple(range(12)), tuple(range(12, 24)))]),
            ]:
                self.assertEqual(waves(row), wanted, row)

    def check_kinds(self, row, told):
        self.assertIs(type(told), list)
        for wave in told:
            self.assertIs(type(wave), tuple)
            balls, boxes = wave
            check_row(self, balls)
            check_row(self, boxes)
            self.assertEqual(len(balls), len(boxes))
        balls = sum((balls for balls, boxes in told), ())
        boxes = sum((boxes for balls, boxes in told), ())
        self.assertEqual(tuple(sorted(balls)), row)
        self.assertEqual(len(boxes), len(set(boxes)))
        self.assertEqual(set(boxes) & set(row), set())
        sizes = sorted((len(balls) for balls, boxes in told), reverse=True)
        self.assertEqual(tuple(sizes), lengths_by_counts(counts_by_gaps(row)))
        self.assertEqual(tuple(sizes), lengths(row))

    def test_run_by_run(self):
        for row in list(near_rows()) + list(small_rows(12)):
            told = waves(row)
            self.check_kinds(row, told)
            self.assertEqual(told, waves_by_boxes(row), row)

    def test_gaps_about_as_long_as_there_are_balls(self):
        # Here a gap is cut short wrongly if one box too few of it is looked at.
        for first, second, third in itertools.product(range(1, 5), repeat=3):
            for one, other in itertools.product(range(1, 15), repeat=2):
                start = first + one
                row = row_of_blocks([(0, first), (start, second), (start + second + other, third)])
                self.assertEqual(waves(row), waves_by_boxes(row), row)

    def test_far_away_and_far_gaps(self):
        with soon(60):
            for row in FAR_ROWS:
                self.check_kinds(row, waves(row))

    def test_gaps_made_far(self):
        # Fourteen boxes are more than all balls ask for, so none but the first ones of such a gap are taken.
        with soon(60):
            rows = [tuple(place + place // 4 * 20 for place in row) for row in mixed_rows(200)]
            for row in rows:
                far, moved = stretched(row, 14)
                self.assertTrue(is_row(far))
                wanted = [
                    tuple(tuple(place + moved[max(ball for ball in row if ball <= place)] for place in part)
                          for part in wave)
                    for wave in waves_by_boxes(row)]
                self.assertEqual(waves(far), wanted)
                self.check_kinds(far, waves(far))

    def test_the_same_wherever_it_stands(self):
        for row in small_rows(8):
            for far in (-END + 4, END - 3):
                moved = tuple(place + far for place in row)
                wanted = [tuple(tuple(place + far for place in part) for part in wave) for wave in waves(row)]
                self.assertEqual(waves(moved), wanted)

    def test_the_list_is_the_askers_own(self):
        for row in [(0,), (0, 1, 2, 5), FAR_ROWS[5]]:
            check_own(self, waves, row)
        told = waves(())
        told.append(1)
        self.assertEqual(waves(()), [])


if __name__ == "__main__":
    unittest.main()
