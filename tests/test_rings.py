"""Promises 60, 61 and 62, and what 1 says of them."""

import collections
import copy
import math
import unittest

from boxballs.errors import NoNumber
from boxballs.rings import is_ring, ring_carried, ring_lengths, ring_undone, round_of, rounds
from tests.helper import (
    HUGE, NO_NUMBERS, all_rings, check_own, check_refused, check_row, lengths_by_counts, ring_by_partners, soon,
)


def counts_going_round(ring):
    """How many balls of a ring are taken out each time, all at once, the boxes being closed up."""
    many, balls = ring
    boxes = [place in balls for place in range(many)]
    counts = []
    while any(boxes):
        out = [at for at, has_ball in enumerate(boxes) if has_ball and not boxes[(at + 1) % len(boxes)]]
        counts.append(len(out))
        gone = set(out) | {(at + 1) % len(boxes) for at in out}
        boxes = [has_ball for at, has_ball in enumerate(boxes) if at not in gone]
    return counts


def all_of_a_round(ring):
    """The rings of a round, from this one on till it is the same again."""
    told = [ring]
    while ring_by_partners(told[-1]) != ring:
        told.append(ring_by_partners(told[-1]))
    return told


class IsRing(unittest.TestCase):

    def check(self, thing, wanted):
        with self.subTest(thing=thing):
            before = copy.deepcopy(thing)
            self.assertIs(is_ring(thing), wanted)
            self.assertIs(is_ring(thing), wanted)
            self.assertEqual(repr(thing), repr(before))

    def test_all_rings(self):
        for ring in all_rings(14):
            self.assertIs(is_ring(ring), True, ring)

    def test_how_many_boxes(self):
        for many in range(1, 15):
            self.check((many, ()), True)
        for many in [0, -1, -14, 15, 16, 100] + HUGE + NO_NUMBERS:
            self.check((many, ()), False)
            self.check((many, (0,)), False)
            self.check((many, (0, 1)), False)

    def test_how_many_balls(self):
        for many in range(1, 15):
            most = (many - 1) // 2
            self.check((many, tuple(range(most))), True)
            self.check((many, tuple(range(many - most, many))), True)
            for balls in range(most + 1, many + 1):
                self.check((many, tuple(range(balls))), False)

    def test_half_as_many_balls_as_boxes(self):
        for ring in [(2, (0,)), (2, (1,)), (4, (0, 1)), (4, (1, 3)), (6, (0, 2, 4)), (14, (0, 2, 4, 6, 8, 10, 12))]:
            self.check(ring, False)

    def test_where_the_balls_are(self):
        self.check((3, (2,)), True)
        self.check((3, (3,)), False)
        self.check((14, (0, 13)), True)
        self.check((14, (0, 14)), False)
        self.check((14, (-1, 3)), False)
        self.check((14, (-1,)), False)
        for huge in HUGE:
            self.check((14, (huge,)), False)

    def test_order(self):
        for balls in [(1, 0), (0, 0), (3, 3), (0, 2, 1), (0, 1, 1), (0, 0, 1), (5, 4, 3), (0, 1, 2, 3, 2), (13, 0)]:
            self.check((14, balls), False)

    def test_truths_are_no_numbers(self):
        for thing in [(True, ()), (False, ()), (5, (True,)), (5, (False,)), (5, (0, True)), (5, (False, 1)),
                      (7, (False, True, 2))]:
            self.check(thing, False)
        self.check((1, ()), True)
        self.check((True, ()), False)
        self.check((5, (0, 1)), True)
        self.check((5, (False, True)), False)

    def test_other_things_among_the_balls(self):
        for wrong in NO_NUMBERS:
            self.check((14, (wrong,)), False)
            self.check((14, (0, wrong)), False)
            self.check((14, (wrong, 5)), False)
            self.check((14, (0, wrong, 5)), False)
            self.check((14, (wrong, wrong)), False)

    def test_other_things_in_the_stead_of_the_balls(self):
        for wrong in NO_NUMBERS + [[0], [0, 1], 0, 5, -1, "01", {0: 1}, {0: True, 2: True}] + HUGE:
            if wrong not in ((), (1,), (1, 2)):
                self.check((14, wrong), False)

    def test_lists_in_the_stead_of_tuples(self):
        for thing in [[5, (0, 1)], [5, [0, 1]], (5, [0, 1]), (5, []), [5, ()], [1, ()]]:
            self.check(thing, False)

    def test_other_things(self):
        for thing in NO_NUMBERS + HUGE + [
            0, 1, 14, -1, (5,), (5, (0,), 1), (5, (0,), ()), ((0,), 5), ((5, (0,)),), (5, 0), (5, (0,), (1,)),
            "5:o", "ab", {5: (0,)}, {"many": 5, "balls": ()}, {5: (), 6: ()}, ((), ()), ([], []), ({}, {}),
            (((((0,),),),),), [[[[[0]]]]], {1: {2: {3: {4: {5: 6}}}}}, (5, (((0,),),)), (5, ([0],)), (5, ({},)),
            (5, ((0,), (1,))), (14, ("a", "b")), (14, (None, None)), (14, ([1], [2])), (14, ({}, {1: 2})),
            ("a" * 400, ()), (5, "a" * 400), tuple([None] * 399), (14, tuple(range(397))), (14, tuple([[]] * 397)),
            list(range(399)), (None, None), (5, None), (None, (0,)), ("5", (0,)), ((5,), (0,)), ([5], (0,)),
        ]:
            self.check(thing, False)


class RingSteps(unittest.TestCase):

    def test_by_hand(self):
        for ring, behind in [
            ((1, ()), (1, ())),
            ((14, ()), (14, ())),
            ((3, (0,)), (3, (1,))),
            ((3, (1,)), (3, (2,))),
            ((3, (2,)), (3, (0,))),
            ((5, (0, 1)), (5, (2, 3))),
            ((5, (3, 4)), (5, (0, 1))),
            ((5, (0, 4)), (5, (1, 2))),
            ((5, (2, 4)), (5, (0, 3))),
            ((7, (3, 5, 6)), (7, (0, 1, 4))),
            ((7, (0, 4, 6)), (7, (1, 2, 5))),
            ((14, (8, 9, 10, 11, 12, 13)), (14, (0, 1, 2, 3, 4, 5))),
            ((13, (1, 2, 10, 11, 12)), (13, (0, 3, 4, 5, 6))),
        ]:
            self.assertEqual(ring_carried(ring), behind)
            self.assertEqual(ring_undone(behind), ring)

    def check_kinds(self, ring, told):
        self.assertIs(type(told), tuple)
        self.assertIs(type(told[0]), int)
        check_row(self, told[1])
        self.assertIs(is_ring(told), True)
        self.assertEqual((told[0], len(told[1])), (ring[0], len(ring[1])))

    def test_against_partners(self):
        for ring in all_rings(14):
            self.assertEqual(ring_carried(ring), ring_by_partners(ring), ring)

    def test_each_undoes_the_other(self):
        for ring in all_rings(14):
            behind, ahead = ring_carried(ring), ring_undone(ring)
            self.check_kinds(ring, behind)
            self.check_kinds(ring, ahead)
            self.assertEqual(ring_undone(behind), ring)
            self.assertEqual(ring_carried(ahead), ring)

    def test_wherever_the_first_box_is(self):
        for many, balls in all_rings(9):
            turned = many, tuple(sorted((ball + 1) % many for ball in balls))
            behind = ring_carried((many, balls))[1]
            self.assertEqual(ring_carried(turned), (many, tuple(sorted((ball + 1) % many for ball in behind))))

    def test_asked_again(self):
        rings = list(all_rings(7))
        first = [(ring_carried(ring), ring_undone(ring), ring_lengths(ring), round_of(ring)) for ring in rings]
        again = [(ring_carried(ring), ring_undone(ring), ring_lengths(ring), round_of(ring)) for ring in rings[::-1]]
        self.assertEqual(first, again[::-1])


class RingLengths(unittest.TestCase):

    def test_by_hand(self):
        for ring, wanted in [
            ((1, ()), ()),
            ((14, ()), ()),
            ((3, (2,)), (1,)),
            ((5, (0, 1)), (2,)),
            ((5, (0, 4)), (2,)),
            ((5, (2, 4)), (1, 1)),
            ((7, (0, 5, 6)), (3,)),
            ((7, (0, 2, 3)), (2, 1)),
            ((7, (0, 1, 5)), (2, 1)),
            ((9, (0, 1, 6, 8)), (3, 1)),
            ((13, (0, 2, 4, 6, 8, 10)), (1, 1, 1, 1, 1, 1)),
            ((14, (0, 9, 10, 11, 12, 13)), (6,)),
        ]:
            self.assertEqual(ring_lengths(ring), wanted, ring)

    def test_against_taking_out(self):
        for ring in all_rings(13):
            told = ring_lengths(ring)
            self.assertIs(type(told), tuple)
            self.assertEqual([type(length) for length in told], [int] * len(told))
            self.assertEqual(told, lengths_by_counts(counts_going_round(ring)), ring)
            self.assertEqual(sum(told), len(ring[1]))

    def test_they_stay_by_steps(self):
        for ring in all_rings(14):
            told = ring_lengths(ring)
            self.assertEqual(ring_lengths(ring_carried(ring)), told)
            self.assertEqual(ring_lengths(ring_undone(ring)), told)


class RoundOf(unittest.TestCase):

    def test_by_hand(self):
        for ring, wanted in [
            ((1, ()), 1),
            ((14, ()), 1),
            ((3, (0,)), 3),
            ((14, (5,)), 14),
            ((6, (0, 1)), 3),
            ((6, (0, 3)), 3),
            ((6, (0, 2)), 6),
            ((5, (0, 1)), 5),
            ((14, (0, 1, 2, 3, 4, 5)), 7),
            ((12, (3, 4, 5, 6)), 3),
            ((12, (0, 3, 6, 9)), 3),
        ]:
            self.assertEqual(round_of(ring), wanted, ring)

    def test_against_steps(self):
        with soon(60):
            for ring in list(all_rings(9)) + [(14, (0, 1, 3)), (13, (0, 1, 2, 5, 7)), (14, (0, 1, 2, 4, 5, 9))]:
                told = round_of(ring)
                self.assertIs(type(told), int)
                self.assertEqual(told, len(all_of_a_round(ring)), ring)


class Rounds(unittest.TestCase):

    def test_by_hand(self):
        for many, balls, wanted in [
            (1, 0, [(1, 1)]),
            (2, 0, [(1, 1)]),
            (10, 0, [(1, 1)]),
            (3, 1, [(3, 1)]),
            (10, 1, [(10, 1)]),
            (5, 2, [(5, 2)]),
            # Blocks of two from an even and from an odd place on; two balls three boxes apart; two nearer ones.
            (6, 2, [(3, 3), (6, 1)]),
        ]:
            self.assertEqual(rounds(many, balls), wanted)

    def test_against_going_round(self):
        for many in range(1, 11):
            for balls in range((many + 1) // 2):
                seen, found = set(), collections.Counter()
                for ring in all_rings(many, many):
                    if len(ring[1]) == balls and ring not in seen:
                        whole = all_of_a_round(ring)
                        seen.update(whole)
                        found[len(whole)] += 1
                told = rounds(many, balls)
                self.assertEqual(told, sorted(found.items()), (many, balls))
                self.assertIs(type(told), list)
                for pair in told:
                    self.assertIs(type(pair), tuple)
                    self.assertEqual([type(number) for number in pair], [int, int])
                self.assertEqual(sum(steps * how_many for steps, how_many in told), math.comb(many, balls))

    def test_bounds(self):
        for many in range(-2, 14):
            for balls in range(-3, 14):
                if not 1 <= many <= 10 or balls < 0 or 2 * balls >= many:
                    check_refused(self, NoNumber, rounds, many, balls)

    def test_no_number(self):
        for wrong in HUGE + NO_NUMBERS:
            for arguments in [(wrong, 0), (wrong, 1), (5, wrong), (10, wrong), (wrong, wrong), (0, wrong),
                              (11, wrong), (wrong, -1), (wrong, 5)]:
                check_refused(self, NoNumber, rounds, *arguments)

    def test_truths_behind_the_equal_numbers(self):
        first = [rounds(1, 0), rounds(3, 1), rounds(3, 0)]
        check_refused(self, NoNumber, rounds, True, 0)
        check_refused(self, NoNumber, rounds, 1, False)
        check_refused(self, NoNumber, rounds, 3, True)
        check_refused(self, NoNumber, rounds, 3, False)
        self.assertEqual([rounds(1, 0), rounds(3, 1), rounds(3, 0)], first)

    def test_the_list_is_the_askers_own(self):
        for many, balls in [(1, 0), (7, 3), (10, 4)]:
            check_own(self, rounds, many, balls)


if __name__ == "__main__":
    unittest.main()
