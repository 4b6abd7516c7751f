"""The error classes of the interface, and how the refusals stand to them."""

import itertools
import unittest

from boxballs.carriers import carried_by, taken_by, undone_by
from boxballs.desk import Desk
from boxballs.errors import BadNote, BallError, NoNumber, NoRow, NotFree, TooLong
from boxballs.free import blocks, free_later, meeting, steps_to_free
from boxballs.made import all_rows, by_lengths, free_row
from boxballs.motley import kind_carried
from boxballs.notes import row_read
from boxballs.rings import rounds
from boxballs.rows import later

KINDS = [NoNumber, NotFree, TooLong, NoRow, BadNote]


class ErrorClasses(unittest.TestCase):

    def test_ball_error_under_value_error(self):
        self.assertEqual(BallError.__bases__, (ValueError,))

    def test_names(self):
        names = [kind.__name__ for kind in [BallError] + KINDS]
        self.assertEqual(names, ["BallError", "NoNumber", "NotFree", "TooLong", "NoRow", "BadNote"])

    def test_others_straight_under_ball_error(self):
        for kind in KINDS:
            self.assertEqual(kind.__bases__, (BallError,))

    def test_none_under_another(self):
        for one, other in itertools.permutations(KINDS, 2):
            self.assertFalse(issubclass(one, other))

    def test_each_made_with_a_text(self):
        for kind in [BallError] + KINDS:
            made = kind("some words")
            self.assertIsInstance(made, BallError)
            self.assertEqual(str(made), "some words")
            with self.assertRaises(kind):
                raise made


class Refusals(unittest.TestCase):

    def test_refused_with_its_own_class_only(self):
        desk = Desk()
        desk.say("row a 0:oo" + "." * 61 + "o")
        for kind, function, *arguments in [
            (NoNumber, later, (0, 1), 61),
            (NoNumber, carried_by, (0, 1), 13),
            (NoNumber, undone_by, (0, 1), 0),
            (NoNumber, taken_by, (0, 1), None),
            (NotFree, blocks, (0, 1, 3)),
            (NotFree, free_later, (0, 1, 3), 1),
            (NotFree, free_later, (0, 1, 3), None),
            (NoNumber, free_later, (0, 1), -1),
            (TooLong, steps_to_free, (0, 1, 63)),
            (NoNumber, meeting, 2, 2, 5),
            (NoNumber, rounds, 4, 2),
            (NoNumber, kind_carried, ((0, 1),), 4),
            (NoNumber, free_row, (2, 1), (2,)),
            (NoNumber, free_row, None, ()),
            (NoNumber, all_rows, 11, 1),
            (NoNumber, by_lengths, 3, 4),
            (BadNote, row_read, "0:o."),
            (BadNote, row_read, None),
            (BadNote, desk.say, "show"),
            (BadNote, desk.say, None),
            (BadNote, desk.say, "later x 01 n"),
            (NoRow, desk.say, "show x"),
            (NoRow, desk.say, "later x 61 n"),
            (NoNumber, desk.say, "later a 61 n"),
            (NoNumber, desk.say, "small a 0 n"),
            (TooLong, desk.say, "free a"),
        ]:
            with self.assertRaises(ValueError) as caught:
                function(*arguments)
            self.assertIs(type(caught.exception), kind)
            self.assertIsInstance(caught.exception, BallError)
            self.assertNotIsInstance(caught.exception, tuple(other for other in KINDS if other is not kind))


if __name__ == "__main__":
    unittest.main()
