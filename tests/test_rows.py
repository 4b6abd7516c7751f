"""Promises 10, 11 and 12, and what 1 says of them."""

import copy
import unittest

from boxballs.errors import NoNumber
from boxballs.rows import carried, is_row, later, loads, undone
from tests.helper import (
    END, FAR_ROWS, HUGE, NO_NUMBERS, box_by_box, check_numbers, check_refused, check_row, mixed_rows,
    near_rows, small_rows, soon,
)


class IsRow(unittest.TestCase):

    def check(self, thing, wanted):
        with self.subTest(thing=thing):
            before = copy.deepcopy(thing)
            self.assertIs(is_row(thing), wanted)
            self.assertIs(is_row(thing), wanted)
            self.assertEqual(repr(thing), repr(before))

    def test_rows(self):
        for row in [(), (0,), (-1,), (7,), (0, 1), (-5, 0, 5), tuple(range(12)), tuple(range(-6, 6))]:
            self.check(row, True)
        for row in FAR_ROWS:
            self.check(row, True)

    def test_all_near_rows(self):
        for row in near_rows():
            self.assertIs(is_row(row), True, row)

    def test_bounds(self):
        self.check((-END,), True)
        self.check((END,), True)
        self.check((-END, END), True)
        self.check((-END - 1,), False)
        self.check((END + 1,), False)
        self.check((-END - 1, 0), False)
        self.check((0, END + 1), False)
        for huge in HUGE:
            self.check((huge,), False)

    def test_how_many_balls(self):
        self.check(tuple(range(12)), True)
        self.check(tuple(range(13)), False)
        self.check(tuple(range(0, 130, 10)), False)
        self.check(tuple(range(399)), False)

    def test_order(self):
        for thing in [(0, 0), (3, 3), (1, 0), (0, 2, 1), (0, 1, 1), (0, 0, 1), (5, 4, 3), (0, 1, 2, 3, 2),
                      (0, -1), (1, 2, 0), (END, -END), (-END, -END), (END, END)]:
            self.check(thing, False)
        # Wherever two neighbours are exchanged, or one stands twice, it is no row any more.
        row = tuple(range(0, 36, 3))
        for at in range(11):
            self.check(row[:at] + (row[at + 1], row[at]) + row[at + 2:], False)
            self.check(row[:at] + (row[at], row[at]) + row[at + 2:], False)

    def test_truths_are_no_places(self):
        for thing in [(True,), (False,), (False, True), (0, True), (False, 1), (False, 2, 3), (-1, True, 5)]:
            self.check(thing, False)

    def test_truths_behind_the_equal_numbers(self):
        self.check((0, 1), True)
        self.check((False, True), False)
        self.check((0, 1), True)
        self.check((1,), True)
        self.check((True,), False)

    def test_other_things_among_the_places(self):
        for wrong in NO_NUMBERS:
            self.check((wrong,), False)
            self.check((-3, wrong), False)
            self.check((wrong, 50), False)
            self.check((-3, wrong, 50), False)
        self.check(("a", "b"), False)
        self.check((None, None), False)
        self.check(([1], [2]), False)
        self.check(((1,), (2,)), False)
        self.check(({}, {1: 2}), False)

    def test_no_tuples(self):
        for thing in [[], [0], [0, 1], [-END, END], list(range(12)), 0, 1, -1, 12, True, False, None, "",
                      "none", "0:o", "(0, 1)", "012", {}, {0: 1}, {0: True, 1: True}, {"row": (0, 1)}] + HUGE:
            self.check(thing, False)

    def test_nested_things(self):
        for thing in [((),), ((0, 1),), (((((0,),),),),), [[[[[0]]]]], {1: {2: {3: {4: {5: 6}}}}},
                      (0, (1,)), ((0,), 1), ([],), ({},), [()], [(0, 1)], {(): ()}, {(0, 1): [2, {"a": (3,)}]},
                      ("a" * 400,), tuple([None] * 12), tuple([[]] * 399), list(range(399)),
                      (0, 1, (2, [3, {4: "5"}]))]:
            self.check(thing, False)

    def test_a_thing_changed_later(self):
        inner = [1]
        thing = (inner,)
        self.assertIs(is_row(thing), False)
        inner.clear()
        self.assertIs(is_row(thing), False)
        self.assertIs(is_row((1,)), True)


class Carried(unittest.TestCase):

    def test_by_hand(self):
        for row, behind in [
            ((), ()),
            ((0,), (1,)),
            ((-1,), (0,)),
            ((5, 6, 7), (8, 9, 10)),
            ((0, 2), (1, 3)),
            ((0, 1, 3), (2, 4, 5)),
            ((0, 1, 2, 5), (3, 4, 6, 7)),
            ((3, 4, 6, 7), (5, 8, 9, 10)),
            ((-3, -2, -1, 4), (0, 1, 2, 5)),
            ((-10, -9, -8, -1, 0), (-7, -6, -5, 1, 2)),
            (tuple(range(12)), tuple(range(12, 24))),
            (tuple(range(0, 24, 2)), tuple(range(1, 25, 2))),
        ]:
            self.assertEqual(carried(row), behind)
            self.assertEqual(undone(behind), row)

    def test_box_by_box(self):
        for row in near_rows():
            behind = carried(row)
            check_row(self, behind)
            self.assertEqual(behind, box_by_box(row, 12)[0], row)

    def test_far_gaps(self):
        with soon():
            self.assertEqual(carried((0, 1, 500000000, 900000000)), (2, 3, 500000001, 900000001))
            self.assertEqual(carried((-END, END - 1)), (-END + 1, END))
            self.assertEqual(
                carried((-700000000, -699999999, -699999997, 0, 1, 2, 600000000)),
                (-699999998, -699999996, -699999995, 3, 4, 5, 600000001))
            self.assertEqual(
                undone((-700000000, -699999999, -699999997, 0, 1, 2, 600000000)),
                (-700000002, -700000001, -699999998, -3, -2, -1, 599999999))

    def test_beyond_the_bounds(self):
        with soon():
            self.assertEqual(carried((END,)), (END + 1,))
            self.assertEqual(undone((-END,)), (-END - 1,))
            self.assertEqual(carried((END - 2, END - 1, END)), (END + 1, END + 2, END + 3))
            self.assertEqual(carried((-END, END - 1, END)), (-END + 1, END + 1, END + 2))
            self.assertEqual(undone((-END, -END + 1, END)), (-END - 2, -END - 1, END - 1))
            twelve = tuple(range(END - 11, END + 1))
            self.assertEqual(carried(twelve), tuple(range(END + 1, END + 13)))

    def test_the_same_wherever_it_stands(self):
        for row in small_rows(7):
            for far in (-END + 100, -150, 150, END - 100):
                moved = tuple(place + far for place in row)
                self.assertEqual(carried(moved), tuple(place + far for place in carried(row)))
                self.assertEqual(undone(moved), tuple(place + far for place in undone(row)))


class Undone(unittest.TestCase):

    def test_by_hand(self):
        self.assertEqual(undone((0, 1, 2, 5)), (-3, -2, -1, 4))
        self.assertEqual(undone((0, 1, 3)), (-2, -1, 2))
        self.assertEqual(undone((1,)), (0,))
        self.assertEqual(undone(()), ())

    def test_each_undoes_the_other(self):
        with soon(60):
            for row in list(near_rows()) + FAR_ROWS:
                check_row(self, undone(row))
                self.assertEqual(undone(carried(row)), row)
                self.assertEqual(carried(undone(row)), row)


class Loads(unittest.TestCase):

    def test_by_hand(self):
        for row, wanted in [
            ((), []),
            ((0,), [1, 0]),
            ((-END,), [1, 0]),
            ((END,), [1, 0]),
            ((0, 1, 2), [1, 2, 3, 2, 1, 0]),
            ((0, 3), [1, 0, 0, 1, 0]),
            ((0, 5), [1, 0, 0, 0, 0, 1, 0]),
            ((-2, -1, 1), [1, 2, 1, 2, 1, 0]),
            ((0, 1, 2, 5), [1, 2, 3, 2, 1, 2, 1, 0]),
            ((7, 8, 10, 11), [1, 2, 1, 2, 3, 2, 1, 0]),
        ]:
            self.assertEqual(loads(row), wanted)

    def test_box_by_box(self):
        for row in near_rows():
            told = loads(row)
            check_numbers(self, told)
            self.assertEqual(told, box_by_box(row, 12)[2], row)

    def test_two_hundred_boxes(self):
        for row in [(0, 199), (-100, -99, -98, 50, 99), (0, 1, 2, 3, 4, 5, 6, 7, 8, 9, 10, 199),
                    (0, 189, 190, 191, 192, 193, 194, 195, 196, 197, 198, 199), (END - 199, END - 198, END),
                    (-END, -END + 1, -END + 199), tuple(range(0, 200, 18))]:
            self.assertTrue(is_row(row))
            self.assertEqual(loads(row), box_by_box(row, 12)[2])
        told = loads((0, 1) + tuple(range(190, 200)))
        self.assertEqual(told, [1, 2, 1] + [0] * 187 + list(range(1, 11)) + list(range(9, -1, -1)))

    def test_the_list_is_the_askers_own(self):
        for row in [(), (0,), (0, 1, 2, 5)]:
            first = loads(row)
            wanted = list(first)
            second = loads(row)
            self.assertIsNot(first, second)
            first.append(99)
            first[0] = 77
            self.assertEqual(second, wanted)
            self.assertEqual(loads(row), wanted)


class Later(unittest.TestCase):

    def test_by_hand(self):
        self.assertEqual(later((0, 1, 2, 5), 0), (0, 1, 2, 5))
        self.assertEqual(later((0, 1, 2, 5), 1), (3, 4, 6, 7))
        self.assertEqual(later((0, 1, 2, 5), 2), (5, 8, 9, 10))
        self.assertEqual(later((0, 1, 2, 5), -1), (-3, -2, -1, 4))
        self.assertEqual(later((5, 6, 7), 60), (185, 186, 187))
        self.assertEqual(later((5, 6, 7), -60), (-175, -174, -173))
        self.assertEqual(later((END,), 60), (END + 60,))
        self.assertEqual(later((-END,), -60), (-END - 60,))

    def test_every_number_of_steps(self):
        with soon(60):
            for row in [()] + list(mixed_rows(60)) + FAR_ROWS:
                ahead = behind = row
                for steps in range(61):
                    self.assertEqual(later(row, steps), ahead)
                    self.assertEqual(later(row, -steps), behind)
                    ahead, behind = carried(ahead), undone(behind)
                check_row(self, later(row, 60))
                check_row(self, later(row, -60))
                check_row(self, later(row, 0))

    def test_back_again(self):
        with soon(60):
            for row in list(mixed_rows(100)):
                for steps in (-60, -59, -7, 0, 1, 33, 60):
                    self.assertEqual(later(later(row, steps), -steps), row)

    def test_no_number(self):
        for row in [(), (0,), (0, 1, 2, 5), FAR_ROWS[5]]:
            for steps in [-61, 61, -62, 62, 100, -100, 1000000, END, -END] + HUGE + NO_NUMBERS:
                check_refused(self, NoNumber, later, row, steps)

    def test_truths_behind_the_equal_numbers(self):
        later((0, 1), 0)
        later((0, 1), 1)
        check_refused(self, NoNumber, later, (0, 1), False)
        check_refused(self, NoNumber, later, (0, 1), True)
        self.assertEqual(later((0, 1), 1), (2, 3))


class AskedAgain(unittest.TestCase):

    def test_the_same_is_told(self):
        with soon():
            rows = [(0, 1, 2, 5), (), (3,), (0, 1, 2, 5), FAR_ROWS[5]]
            first = [(is_row(row), carried(row), undone(row), later(row, 7)) for row in rows]
            for row in reversed(rows):
                carried(row)
            again = [(is_row(row), carried(row), undone(row), later(row, 7)) for row in rows]
            self.assertEqual(first, again)


if __name__ == "__main__":
    unittest.main()
