"""What holds over the whole program: 1, and what the points promise of one another."""

import copy
import itertools
import unittest

from boxballs.carriers import carried_by, taken_by, takings, undone_by
from boxballs.desk import Desk
from boxballs.errors import NoNumber, NotFree, TooLong
from boxballs.free import blocks, free_later, is_free, meeting, steps_to_free
from boxballs.made import all_rows, by_lengths, free_row
from boxballs.motley import is_motley, kind_carried, motley_carried, motley_undone, staying
from boxballs.notes import row_read, row_text
from boxballs.pairs import depths, pairs, peeled
from boxballs.rings import is_ring, ring_carried, ring_lengths, ring_undone, round_of, rounds
from boxballs.rows import carried, is_row, later, loads, undone
from boxballs.waves import lengths, one_making, waves
from tests.helper import THINGS, check_own, check_refused, mixed_rows, near_rows, rising_sizes, small_rows, soon

ROW = (0, 1, 2, 5)
RING = (7, (3, 5, 6))
MOTLEY = ((0, 3), (1, 1), (2, 2), (9, 1))

# A call of each function, with what it is handed in.
CALLS = [
    (is_row, ROW), (carried, ROW), (undone, ROW), (loads, ROW), (later, ROW, 3), (later, ROW, 0),
    (carried_by, ROW, 2), (undone_by, ROW, 2), (taken_by, ROW, 2), (takings, ROW),
    (lengths, ROW), (one_making, ROW, (3, 4, 6, 7)), (waves, ROW), (pairs, ROW), (depths, ROW), (peeled, ROW),
    (is_free, ROW), (blocks, (0, 2, 3)), (free_later, (0, 2, 3), 5), (steps_to_free, ROW), (meeting, 3, 1, 3),
    (is_ring, RING), (ring_carried, RING), (ring_undone, RING), (ring_lengths, RING), (round_of, RING), (rounds, 7, 3),
    (is_motley, MOTLEY), (kind_carried, MOTLEY, 1), (motley_carried, MOTLEY), (motley_undone, MOTLEY),
    (staying, MOTLEY), (free_row, (1, 2), (3,)), (all_rows, 4, 2), (by_lengths, 4, 2), (row_text, ROW),
    (row_read, "-2:oo.o"),
]
LISTS = {loads, takings, waves, pairs, depths, rounds, staying, all_rows, by_lengths}


def gapped(sizes, extra):
    """The lengths and gaps of a free row, each gap so much longer than the block ahead of it."""
    return sizes, tuple(size + extra for size in sizes[:-1])


def kept_texts(desk):
    """The texts of all that a desk keeps, by their names."""
    return {name: desk.say(f"show {name}") for name in desk.say("kept").split()}


class AskersOwn(unittest.TestCase):

    def test_nothing_handed_in_is_changed_and_the_same_is_told_again(self):
        before = copy.deepcopy([arguments for function, *arguments in CALLS])
        first = [repr(function(*arguments)) for function, *arguments in CALLS]
        again = [repr(function(*arguments)) for function, *arguments in reversed(CALLS)]
        self.assertEqual(first, again[::-1])
        self.assertEqual([arguments for function, *arguments in CALLS], before)

    def test_lists(self):
        for function, *arguments in CALLS:
            told = function(*arguments)
            self.assertEqual(isinstance(told, list), function in LISTS, function)
            if function in LISTS:
                check_own(self, function, *arguments)
                self.assertFalse(any(isinstance(part, list) for part in told))

    def test_lists_of_nothing(self):
        for function in (loads, takings, waves, pairs, depths, staying):
            first = function(())
            first.append(1)
            self.assertEqual(function(()), [])

    def test_of_anything(self):
        for thing in THINGS:
            before = repr(thing)
            for function in (is_row, is_ring, is_motley):
                self.assertIs(function(thing), False, thing)
                self.assertIs(function((thing, thing)), False, thing)
                self.assertIs(function(((thing,), thing)), False, thing)
            self.assertEqual(repr(thing), before)

    def test_the_row_without_balls_is_motley_too(self):
        self.assertEqual([is_row(()), is_motley(()), is_ring(())], [True, True, False])

    def test_refused_the_same_again(self):
        for wanted, function, *arguments in [
            (NoNumber, later, ROW, 61), (NoNumber, carried_by, ROW, True), (NotFree, blocks, ROW),
            (NotFree, free_later, ROW, -1), (NoNumber, free_later, (0,), -1), (TooLong, steps_to_free, (0, 1, 63)),
            (NoNumber, meeting, 2, 2, 2), (NoNumber, rounds, 4, 2), (NoNumber, kind_carried, MOTLEY, 4),
            (NoNumber, free_row, (2, 1), (2,)), (NoNumber, all_rows, 11, 0), (NoNumber, by_lengths, 1, 2),
        ]:
            for turn in range(2):
                check_refused(self, wanted, function, *arguments)


class RowsMade(unittest.TestCase):

    def test_free_rows(self):
        for sizes in rising_sizes(12):
            for extra in (0, 1, 13, 88):
                row = free_row(*gapped(sizes, extra))
                self.assertIs(is_free(row), True)
                self.assertEqual(tuple(many for first, many in blocks(row)), sizes)
                self.assertEqual(lengths(row), sizes[::-1])
                wanted = [sum(min(size, most) for size in sizes) for most in range(1, len(row) + 1)]
                self.assertEqual(takings(row), wanted)
                self.assertEqual(steps_to_free(row), 0)
                self.assertEqual(free_later(row, 7), later(row, 7))
                self.assertEqual(tuple(sorted(len(balls) for balls, boxes in waves(row))), sizes)
                self.assertEqual(row_read(row_text(row)) if row[-1] < 200 else row, row)

    def test_of_one_making_where_counted_for_the_same(self):
        for boxes in range(8):
            for balls in range(boxes + 1):
                counted = dict(by_lengths(boxes, balls))
                rows = all_rows(boxes, balls)
                for one in rows:
                    alike = [other for other in rows if one_making(one, other)]
                    self.assertEqual(len(alike), counted[lengths(one)])
                    self.assertEqual({lengths(other) for other in alike}, {lengths(one)})

    def test_all_rows_of_the_most_boxes(self):
        for balls in range(11):
            rows = all_rows(10, balls)
            for sizes, many in by_lengths(10, balls):
                self.assertEqual(sum(sizes), balls)
                self.assertEqual(sum(1 for row in rows if lengths(row) == sizes), many)

    def test_what_stays(self):
        with soon(60):
            for boxes, balls in itertools.product(range(9), repeat=2):
                for row in all_rows(boxes, balls) if balls <= boxes else ():
                    for size, other in [(1, 2), (2, 3), (3, 1), (12, 1)]:
                        one = carried_by(carried_by(row, size), other)
                        self.assertEqual(one, carried_by(carried_by(row, other), size))
                        self.assertEqual(takings(one), takings(row))
                        self.assertEqual(lengths(one), lengths(row))

    def test_pairs_and_lengths(self):
        for row in all_rows(10, 5) + all_rows(10, 4) + all_rows(9, 6):
            self.assertEqual(tuple(sorted(box for ball, box in pairs(row))), carried(row))
            deep = depths(row)
            counts = [deep.count(depth) for depth in range(1, max(deep) + 1)]
            self.assertEqual(
                lengths(row), tuple(sum(1 for many in counts if many >= ball) for ball in range(1, counts[0] + 1)))
            self.assertEqual(lengths(peeled(row)), tuple(length - 1 for length in lengths(row) if length > 1))

    def test_one_kind(self):
        for row in all_rows(8, 4):
            for kind in (1, 2, 3):
                motley = tuple((place, kind) for place in row)
                self.assertIs(is_motley(motley), True)
                self.assertEqual(staying(motley), [(kind,) * 4])
                self.assertEqual(motley_carried(motley), tuple((place, kind) for place in carried(row)))
                self.assertEqual(motley_undone(motley), tuple((place, kind) for place in undone(row)))

    def test_meetings(self):
        for longer, shorter in [(2, 1), (5, 3), (8, 4)]:
            for gap in range(longer, 31):
                steps, row = meeting(longer, shorter, gap)
                start = tuple(range(longer)) + tuple(range(longer + gap, longer + gap + shorter))
                self.assertEqual((steps, row), (steps_to_free(start), later(start, steps)))
                self.assertEqual([many for first, many in blocks(row)], [shorter, longer])
                apart = blocks(row)[1][0] - blocks(row)[0][0] - shorter
                made = free_row((shorter, longer), (apart,))
                self.assertEqual(tuple(place - row[0] for place in row), made)


class AtADesk(unittest.TestCase):

    def rows(self):
        return list(small_rows(7)) + list(mixed_rows(120))

    def desk_with(self, row):
        desk = Desk()
        self.assertEqual(desk.say(f"row a {row_text(row)}"), "ok")
        return desk

    def test_later_and_back(self):
        for turn, row in enumerate(self.rows()):
            desk = self.desk_with(row)
            steps = turn % 121 - 60
            desk.say(f"later a {steps} b")
            desk.say(f"later b {-steps} c")
            self.assertEqual(desk.say("show c"), desk.say("show a"))
            self.assertEqual(desk.say("show a"), row_text(row))

    def test_what_is_later_is_alike(self):
        for turn, row in enumerate(self.rows()):
            desk = self.desk_with(row)
            desk.say(f"later a {turn % 121 - 60} b")
            desk.say(f"small a {turn % 12 + 1} c")
            for name in ("b", "c"):
                self.assertEqual(desk.say(f"alike a {name}"), "yes")
                self.assertEqual(desk.say(f"alike {name} a"), "yes")
                self.assertEqual(desk.say(f"lengths {name}"), desk.say("lengths a"))
                self.assertEqual(desk.say(f"takings {name}"), desk.say("takings a"))

    def test_a_small_carrier_of_as_great_a_size_is_a_step(self):
        for row in self.rows():
            desk = self.desk_with(row)
            desk.say("later a 1 b")
            for size in range(max(len(row), 1), 13):
                desk.say(f"small a {size} c")
                self.assertEqual(desk.say("show c"), desk.say("show b"))

    def test_peeled_the_lengths_are_less_by_one(self):
        for row in self.rows():
            desk = self.desk_with(row)
            desk.say("peel a b")
            told = [] if desk.say("lengths a") == "none" else desk.say("lengths a").split(" ")
            less = [str(int(length) - 1) for length in told if length != "1"]
            self.assertEqual(desk.say("lengths b"), " ".join(less) or "none")

    def test_free_then(self):
        for row in self.rows():
            desk = self.desk_with(row)
            try:
                told = desk.say("free a")
            except TooLong:
                self.assertRaises(TooLong, steps_to_free, row)
                continue
            desk.say(f"later a {0 if told == 'yes' else told} b")
            self.assertEqual(desk.say("free b"), "yes")
            self.assertIs(is_free(row), told == "yes")

    def test_another_desk_told_the_text_tells_the_same(self):
        for row in near_rows():
            desk, other = self.desk_with(row), Desk()
            self.assertEqual(other.say(f"row n {desk.say('show a')}"), "ok")
            for line in ("show", "lengths", "takings"):
                self.assertEqual(other.say(f"{line} n"), desk.say(f"{line} a"))
            for line in ("later {} 2 b", "small {} 2 c", "peel {} d"):
                self.assertEqual([other.say(line.format("n")), desk.say(line.format("a"))], ["ok", "ok"])
            told, wanted = kept_texts(other), kept_texts(desk)
            self.assertEqual(told.pop("n"), wanted.pop("a"))
            self.assertEqual(told, wanted)

    def test_rows_made_at_a_desk(self):
        for sizes in rising_sizes(9):
            desk = self.desk_with(free_row(*gapped(sizes, 2)))
            self.assertEqual(desk.say("free a"), "yes")
            self.assertEqual(desk.say("lengths a"), " ".join(str(size) for size in reversed(sizes)))


if __name__ == "__main__":
    unittest.main()
