"""The error classes of the interface, and how the refusals stand to them."""

import itertools
import unittest

from boxballs.carriers import carried_by, taken_by, undone_by
from boxballs.errors import BadNote, BallError, NoNumber, NoRow, NotFree, TooLong
from boxballs.rows import later

KINDS = [NoNumber, NotFree, TooLong, NoRow, BadNote]


class ErrorClasses(unittest.TestCase):

    def test_ball_error_under_value_error(self):
        self.assertEqual(BallError.__bases__, (ValueError,))

    def test_names(self):
        names = [kind.__name__ for kind in [BallError] + KINDS]
        self.assertEqual(names, ["BallError", "NoNumber", "NotFree", "TooLong", "NoRow", "BadNote"])

    def test_others_straight_under_ball_error(self):
        for kind in KINDS:
            self.assertEqual(kind.__bases__, (BallError,))

    def test_none_under_another(self):
        for one, other in itertools.permutations(KINDS, 2):
            self.assertFalse(issubclass(one, other))

    def test_each_made_with_a_text(self):
        for kind in [BallError] + KINDS:
            made = kind("some words")
            self.assertIsInstance(made, BallError)
            self.assertEqual(str(made), "some words")
            with self.assertRaises(kind):
                raise made


class Refusals(unittest.TestCase):

    def test_refused_with_its_own_class_only(self):
        others = tuple(kind for kind in KINDS if kind is not NoNumber)
        for function, wrong in [(later, 61), (carried_by, 13), (undone_by, 0), (taken_by, None)]:
            with self.assertRaises(BallError) as caught:
                function((0, 1), wrong)
            self.assertIs(type(caught.exception), NoNumber)
            self.assertNotIsInstance(caught.exception, others)


if __name__ == "__main__":
    unittest.main()
