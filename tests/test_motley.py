"""Promises 70, 71 and 72, and what 1 says of them."""

import bisect
import copy
import itertools
import unittest

from boxballs.errors import NoNumber
from boxballs.motley import is_motley, kind_carried, motley_carried, motley_undone, staying
from boxballs.rows import carried, undone
from tests.helper import (
    END, FAR_ROWS, HUGE, NO_NUMBERS, THINGS, check_own, check_refused, check_row, mixed_rows, near_rows, soon,
    stretched,
)

KINDS = (1, 2, 3)


def kinds_for(row, seed):
    """The motley row of these places, with kinds that are the same each time."""
    told = []
    for place in row:
        seed = (seed * 1103515245 + 12345) % 2 ** 31
        told.append((place, 1 + (seed >> 16) % 3))
    return tuple(told)


def small_motleys(boxes=6):
    """Every motley row in so many boxes, some of them below 0."""
    for kinds in itertools.product((0,) + KINDS, repeat=boxes):
        yield tuple((place - 3, kind) for place, kind in enumerate(kinds) if kind)


def mixed_motleys():
    """Motley rows of one to twelve balls."""
    for turn, row in enumerate(mixed_rows()):
        yield kinds_for(row, turn)


def near_motleys():
    """Motley rows that can be gone through box by box."""
    yield from small_motleys()
    yield from mixed_motleys()


def far_motleys():
    """Motley rows at the bounds and with far gaps."""
    for turn, row in enumerate(FAR_ROWS + [stretched(row, 3)[0] for row in mixed_rows(150)]):
        yield kinds_for(row, turn)
        yield kinds_for(row, turn + 77)


def kind_ball_by_ball(motley, kind):
    """The motley row behind a step of a kind, as the document tells it, in boxes that are all there."""
    first = motley[0][0] if motley else 0
    last = motley[-1][0] if motley else 0
    boxes = [0] * (last - first + 1 + 2 * len(motley))
    for place, its_kind in motley:
        boxes[place - first] = its_kind
    for at in [at for at, its_kind in enumerate(boxes) if its_kind == kind]:
        empty = boxes.index(0, at)
        boxes[at], boxes[empty] = 0, kind
    return tuple((first + at, its_kind) for at, its_kind in enumerate(boxes) if its_kind)


def lists_number_by_number(motley):
    """The lists, each number put in as the document tells it."""
    lists = []
    for place, number in motley:
        for numbers in itertools.count():
            if numbers == len(lists):
                lists.append([number])
                break
            at = bisect.bisect_right(lists[numbers], number)
            if at == len(lists[numbers]):
                lists[numbers].append(number)
                break
            lists[numbers][at], number = number, lists[numbers][at]
    return [tuple(numbers) for numbers in lists]


def places_of(motley):
    return tuple(place for place, kind in motley)


class IsMotley(unittest.TestCase):

    def check(self, thing, wanted):
        with self.subTest(thing=thing):
            before = copy.deepcopy(thing)
            self.assertIs(is_motley(thing), wanted)
            self.assertIs(is_motley(thing), wanted)
            self.assertEqual(repr(thing), repr(before))

    def test_motley_rows(self):
        for thing in [(), ((0, 1),), ((0, 2),), ((0, 3),), ((-1, 3), (0, 1)), ((END, 1),), ((-END, 3),),
                      ((-END, 2), (END, 2))]:
            self.check(thing, True)

    def test_all_near_and_far(self):
        for motley in itertools.chain(near_motleys(), far_motleys()):
            self.assertIs(is_motley(motley), True, motley)

    def test_how_many_balls(self):
        for many in range(13):
            for first, apart in [(0, 1), (-6, 1), (-5, 7), (END - 11, 1), (-END, 1), (-END, 160000000)]:
                self.check(tuple((first + apart * ball, 1 + ball % 3) for ball in range(many)), True)
        for many in (13, 14, 100):
            self.check(tuple((ball, 1 + ball % 3) for ball in range(many)), False)

    def test_bounds(self):
        for kind in KINDS:
            for thing in [((END + 1, kind),), ((-END - 1, kind),), ((0, 1), (END + 1, kind)),
                          ((-END - 1, kind), (0, 1)), ((-END - 1, kind), (END + 1, kind))]:
                self.check(thing, False)
        for huge in HUGE:
            self.check(((huge, 1),), False)
            self.check(((1, huge),), False)

    def test_a_place_twice(self):
        # Some of these rise as tuples, but their places are no row.
        for one, other in itertools.product(KINDS, repeat=2):
            self.check(((0, one), (0, other)), False)
            self.check(((-3, 2), (0, one), (0, other), (5, 1)), False)
            self.check(((END, one), (END, other)), False)

    def test_out_of_order(self):
        for one, other in itertools.product(KINDS, repeat=2):
            self.check(((1, one), (0, other)), False)
            self.check(((0, 1), (2, one), (1, other)), False)
            self.check(((0, one), (-1, other)), False)
        motley = tuple((place * 3, 1 + place % 3) for place in range(12))
        for at in range(11):
            self.check(motley[:at] + (motley[at + 1], motley[at]) + motley[at + 2:], False)

    def test_kinds(self):
        for wrong in [0, 4, -1, 5, 12, END] + HUGE + NO_NUMBERS:
            self.check(((0, wrong),), False)
            self.check(((0, 1), (1, wrong)), False)
            self.check(((0, wrong), (1, 1)), False)
            self.check(((0, 1), (1, wrong), (2, 1)), False)

    def test_places(self):
        for wrong in NO_NUMBERS:
            self.check(((wrong, 1),), False)
            self.check(((-5, 1), (wrong, 1)), False)
            self.check(((wrong, 1), (5, 1)), False)
            self.check(((wrong, 1), (wrong, 2)), False)

    def test_truths_behind_the_equal_numbers(self):
        for motley, truths in [(((0, 1),), ((0, True),)), (((0, 1),), ((False, 1),)), (((1, 2),), ((True, 2),))]:
            self.check(motley, True)
            self.check(truths, False)
            self.check(motley, True)

    def test_pairs_of_another_form(self):
        for wrong in [(), (0,), (1,), (0, 1, 1), (0, 1, 2, 3), [0, 1], [], "01", {0: 1}, {0: 1, 1: 2}, 0, 1, None, True,
                      ((0, 1),), (0, (1,)), ((0,), 1), [(0, 1)], (0, [1]), ([0], 1)]:
            self.check((wrong,), False)
            self.check(((-5, 1), wrong), False)
            self.check((wrong, (5, 1)), False)

    def test_lists_in_a_tuples_stead(self):
        for thing in [[], [(0, 1)], [[0, 1]], ([0, 1],), ((0, 1), [1, 1]), [(0, 1), (1, 2)], {}, {(0, 1): (1, 2)}]:
            self.check(thing, False)

    def test_other_things(self):
        for thing in THINGS + NO_NUMBERS[3:]:
            if thing != ():
                self.check(thing, False)
        for row in [(0,), (0, 1), (5, (0, 1)), (1, 2, 3)]:
            self.check(row, False)

    def test_a_thing_changed_later(self):
        inner = [0, 1]
        self.assertIs(is_motley((inner,)), False)
        inner.clear()
        self.assertIs(is_motley((inner,)), False)
        self.assertIs(is_motley(((0, 1),)), True)


class Steps(unittest.TestCase):

    def check_kinds(self, motley, told):
        self.assertIs(type(told), tuple)
        for ball in told:
            self.assertIs(type(ball), tuple)
            self.assertEqual([type(part) for part in ball], [int, int])
        check_row(self, places_of(told))
        self.assertEqual(sorted(kind for place, kind in told), sorted(kind for place, kind in motley))

    def test_kind_by_hand(self):
        for motley, kind, behind in [
            ((), 1, ()),
            ((), 3, ()),
            (((0, 1),), 1, ((1, 1),)),
            (((0, 1),), 2, ((0, 1),)),
            (((0, 3),), 3, ((1, 3),)),
            (((-1, 2), (0, 1)), 2, ((0, 1), (1, 2))),
            (((0, 1), (1, 2)), 1, ((1, 2), (2, 1))),
            (((0, 1), (1, 2), (2, 1)), 1, ((1, 2), (3, 1), (4, 1))),
            (((0, 1), (1, 2), (3, 1)), 1, ((1, 2), (2, 1), (4, 1))),
            (((0, 2), (1, 2), (3, 1), (4, 2)), 2, ((2, 2), (3, 1), (5, 2), (6, 2))),
            (((-END, 1), (-END + 1, 3), (END, 1)), 1, ((-END + 1, 3), (-END + 2, 1), (END + 1, 1))),
        ]:
            with soon():
                self.assertEqual(kind_carried(motley, kind), behind)

    def test_step_by_hand(self):
        for motley, behind in [
            ((), ()),
            (((0, 1),), ((1, 1),)),
            (((0, 2),), ((1, 2),)),
            (((0, 3),), ((1, 3),)),
            (((0, 1), (1, 2)), ((2, 1), (3, 2))),
            # Kind 1 goes ahead to 2, then kind 2 into the box that it left.
            (((0, 2), (1, 1)), ((1, 2), (2, 1))),
            # 3 2 1: 1 goes from 2 to 3, 2 from 1 to 2, 3 from 0 to 1.
            (((0, 3), (1, 2), (2, 1)), ((1, 3), (2, 2), (3, 1))),
            (((0, 1), (1, 2), (2, 3)), ((3, 1), (4, 2), (5, 3))),
            (((END - 1, 1), (END, 2)), ((END + 1, 1), (END + 2, 2))),
            (((-END, 2), (0, 1), (1, 3), (END, 1)), ((-END + 1, 2), (2, 1), (3, 3), (END + 1, 1))),
        ]:
            with soon():
                self.assertEqual(motley_carried(motley), behind)
                self.assertEqual(motley_undone(behind), motley)

    def test_kind_ball_by_ball(self):
        for motley in near_motleys():
            for kind in KINDS:
                told = kind_carried(motley, kind)
                self.check_kinds(motley, told)
                self.assertEqual(told, kind_ball_by_ball(motley, kind), (motley, kind))

    def test_step_is_one_of_each_kind(self):
        with soon(60):
            for motley in itertools.chain(near_motleys(), far_motleys()):
                there = motley
                for kind in KINDS:
                    there = kind_carried(there, kind)
                told = motley_carried(motley)
                self.check_kinds(motley, told)
                self.assertEqual(told, there, motley)

    def test_step_ball_by_ball(self):
        for motley in near_motleys():
            there = motley
            for kind in KINDS:
                there = kind_ball_by_ball(there, kind)
            self.assertEqual(motley_carried(motley), there)

    def test_each_undoes_the_other(self):
        with soon(60):
            for motley in itertools.chain(near_motleys(), far_motleys()):
                behind, ahead = motley_carried(motley), motley_undone(motley)
                self.check_kinds(motley, ahead)
                self.assertEqual(motley_undone(behind), motley)
                self.assertEqual(motley_carried(ahead), motley)

    def test_gaps_made_far(self):
        # No ball goes by forty boxes in a step, so a longer gap may be of any length.
        with soon(60):
            for turn, row in enumerate(mixed_rows(200)):
                row = tuple(place + place // 4 * 50 for place in row)
                far, moved = stretched(row, 40)
                near = kinds_for(row, turn)
                for kind in KINDS:
                    self.check_moved(kind_carried(kinds_for(far, turn), kind), kind_ball_by_ball(near, kind), moved)
                self.check_moved(motley_carried(kinds_for(far, turn)), motley_carried(near), moved)

    def check_moved(self, told, near, moved):
        self.assertEqual(told, tuple(
            (place + moved[max(ball for ball in moved if ball <= place)], kind) for place, kind in near))

    def test_wherever_it_stands(self):
        for motley in small_motleys(4):
            for far in (-END + 3, END - 9):
                moved = tuple((place + far, kind) for place, kind in motley)
                for function in (motley_carried, motley_undone):
                    self.assertEqual(
                        function(moved), tuple((place + far, kind) for place, kind in function(motley)))

    def test_no_kind(self):
        for motley in [(), ((0, 1),), ((0, 1), (1, 2), (5, 3)), ((-END, 3), (END, 3))]:
            for wrong in [0, 4, -1, -2, -3, 5, 12, END, -END] + HUGE + NO_NUMBERS:
                check_refused(self, NoNumber, kind_carried, motley, wrong)

    def test_truths_behind_the_equal_numbers(self):
        first = kind_carried(((0, 1),), 1)
        check_refused(self, NoNumber, kind_carried, ((0, 1),), True)
        check_refused(self, NoNumber, kind_carried, ((0, 1),), False)
        self.assertEqual(kind_carried(((0, 1),), 1), first)

    def test_asked_again(self):
        motleys = list(small_motleys(4))
        first = [(motley_carried(motley), motley_undone(motley), staying(motley)) for motley in motleys]
        again = [(motley_carried(motley), motley_undone(motley), staying(motley)) for motley in motleys[::-1]]
        self.assertEqual(first, again[::-1])


class OneKindAndBlocks(unittest.TestCase):

    def test_one_kind_alone(self):
        with soon(60):
            for row in list(near_rows()) + FAR_ROWS:
                for kind in KINDS:
                    motley = tuple((place, kind) for place in row)
                    behind = tuple((place, kind) for place in carried(row))
                    self.assertEqual(kind_carried(motley, kind), behind)
                    self.assertEqual(motley_carried(motley), behind)
                    self.assertEqual(motley_undone(motley), tuple((place, kind) for place in undone(row)))

    def test_blocks_whose_kinds_never_fall(self):
        for many in range(1, 13):
            for kinds in itertools.combinations_with_replacement(KINDS, many):
                for first in (-END, -5, 0, END - many):
                    motley = there = tuple((first + at, kind) for at, kind in enumerate(kinds))
                    for steps in range(1, 4):
                        there = motley_carried(there)
                        self.assertEqual(there, tuple((place + many * steps, kind) for place, kind in motley))


class Staying(unittest.TestCase):

    def test_by_hand(self):
        for kinds, wanted in [
            ((), []),
            ((1,), [(1,)]),
            ((3,), [(3,)]),
            ((1, 1), [(1, 1)]),
            ((1, 2, 3), [(1, 2, 3)]),
            ((2, 1), [(1,), (2,)]),
            ((3, 2, 1), [(1,), (2,), (3,)]),
            ((2, 2, 1), [(1, 2), (2,)]),
            ((1, 3, 2), [(1, 2), (3,)]),
            ((3, 1, 2), [(1, 2), (3,)]),
            ((2, 3, 1, 1), [(1, 1), (2, 3)]),
            ((3, 3, 2, 2, 1, 1), [(1, 1), (2, 2), (3, 3)]),
            ((1, 3, 2, 3, 1, 2), [(1, 1, 2), (2, 3), (3,)]),
        ]:
            for first, apart in [(0, 1), (-7, 3), (-END, 300000000)]:
                motley = tuple((first + apart * at, kind) for at, kind in enumerate(kinds))
                self.assertEqual(staying(motley), wanted, motley)

    def test_number_by_number(self):
        for motley in itertools.chain(near_motleys(), far_motleys()):
            told = staying(motley)
            self.assertIs(type(told), list)
            for numbers in told:
                self.assertIs(type(numbers), tuple)
                self.assertEqual([type(number) for number in numbers], [int] * len(numbers))
            self.assertEqual(told, lists_number_by_number(motley), motley)

    def test_they_stay_by_steps(self):
        with soon(60):
            for motley in itertools.chain(near_motleys(), far_motleys()):
                told = staying(motley)
                self.assertEqual(staying(motley_carried(motley)), told, motley)
                self.assertEqual(staying(motley_undone(motley)), told, motley)

    def test_they_stay_by_many_steps(self):
        for motley in itertools.islice(mixed_motleys(), 100):
            told = staying(motley)
            ahead = behind = motley
            for steps in range(20):
                ahead, behind = motley_carried(ahead), motley_undone(behind)
                self.assertEqual(staying(ahead), told)
                self.assertEqual(staying(behind), told)

    def test_the_list_is_the_askers_own(self):
        for motley in [((0, 1),), ((0, 3), (1, 2), (2, 1)), ((0, 2), (4, 1), (5, 1))]:
            check_own(self, staying, motley)
        told = staying(())
        told.append((1,))
        self.assertEqual(staying(()), [])


if __name__ == "__main__":
    unittest.main()
