"""The interface: what must exist, under its name, with its arguments in their places."""

import importlib
import inspect
import unittest

FUNCTIONS = {
    "rows": {
        "is_row": ["thing"], "carried": ["row"], "undone": ["row"], "loads": ["row"], "later": ["row", "steps"],
    },
    "carriers": {
        "carried_by": ["row", "size"], "undone_by": ["row", "size"], "taken_by": ["row", "size"], "takings": ["row"],
    },
    "waves": {"lengths": ["row"], "one_making": ["one", "other"], "waves": ["row"]},
    "pairs": {"pairs": ["row"], "depths": ["row"], "peeled": ["row"]},
    "free": {
        "is_free": ["row"], "blocks": ["row"], "free_later": ["row", "steps"], "steps_to_free": ["row"],
        "meeting": ["longer", "shorter", "gap"],
    },
    "rings": {
        "is_ring": ["thing"], "ring_carried": ["ring"], "ring_undone": ["ring"], "ring_lengths": ["ring"],
        "round_of": ["ring"], "rounds": ["many", "balls"],
    },
    "motley": {
        "is_motley": ["thing"], "kind_carried": ["motley", "kind"], "motley_carried": ["motley"],
        "motley_undone": ["motley"], "staying": ["motley"],
    },
    "made": {
        "free_row": ["lengths", "gaps"], "all_rows": ["boxes", "balls"], "by_lengths": ["boxes", "balls"],
    },
    "notes": {"row_text": ["row"], "row_read": ["text"]},
}
ERRORS = ["BallError", "NoNumber", "NotFree", "TooLong", "NoRow", "BadNote"]


class Interface(unittest.TestCase):

    def test_functions(self):
        for module_name, functions in FUNCTIONS.items():
            module = importlib.import_module(f"boxballs.{module_name}")
            for name, arguments in functions.items():
                function = getattr(module, name)
                self.assertEqual(function.__module__, module.__name__)
                self.assertEqual(list(inspect.signature(function).parameters), arguments)

    def test_desk(self):
        module = importlib.import_module("boxballs.desk")
        self.assertTrue(inspect.isclass(module.Desk))
        self.assertEqual(module.Desk.__module__, "boxballs.desk")
        self.assertEqual(list(inspect.signature(module.Desk).parameters), [])
        self.assertEqual(list(inspect.signature(module.Desk().say).parameters), ["line"])

    def test_errors(self):
        module = importlib.import_module("boxballs.errors")
        for name in ERRORS:
            self.assertEqual(getattr(module, name).__module__, "boxballs.errors")


if __name__ == "__main__":
    unittest.main()
