"""Promises 91 and 92, and what 1 says of them."""

import itertools
import unittest

from boxballs.carriers import carried_by, takings
from boxballs.desk import Desk
from boxballs.errors import BadNote, NoNumber, NoRow, TooLong
from boxballs.free import steps_to_free
from boxballs.notes import row_text
from boxballs.pairs import peeled
from boxballs.rows import later
from boxballs.waves import lengths, one_making
from tests.helper import END, HUGE, NO_NUMBERS, THINGS, check_refused, mixed_rows, near_rows, small_rows

# Rows with these names are kept by a furnished desk.
ROWS = {
    "a": (0, 1, 2, 5), "b": (), "c": (0,), "far": (0, 1, 63), "free": (0, 2, 3), "zzzzzzzz": (-2, -1, 1),
    "kept": (7, 9),
}

# A line of each kind that a furnished desk answers.
LINES = [
    "row n 0:o", "row a none", "kept", "show a", "later a 3 n", "later a -3 a", "small a 2 n", "peel a n", "peel a a",
    "lengths a", "takings a", "free a", "alike a c", "alike a a", "show kept", "row row -1:oo", "free free",
]

# No names.
NO_NAMES = [
    "", "A", "aB", "a1", "1", "0", "-1", "a-b", "a_b", "_", "a.", ".", "a:", "abcdefghi", "zzzzzzzzz", "a" * 400,
    "\u00e4", "\u0430", "\u00df", "\uff41", "a\u0301", "\u00aa", "\ud800", "a\n", "\na", "a\t", "\ta", "a\r", "a\x00",
    "\x00", "a,", "*", "N", "0:o", "a\u00a0b", "a\u2003", "a\u2028", "a\x0b", "a\x1f",
]

# No numbers as they are written, of at most thirty figures.
NO_WRITTEN_NUMBERS = [
    "", "-", "+1", "+0", "-0", "00", "01", "-01", "007", "1.0", "1e1", "1_0", "0x1", "a", "one", "1a", "--1", "1-",
    "- 1", "1,0", "\u0661", "\u00b2", "\uff11", "1\u0661", "\u22121", "1\n", "\n1", "\t1", "1\t", "1\x00", "None",
    "True", "none", "0:o", "1" * 31, "-" + "1" * 31, "0" * 31, "0" * 30, "1" * 400, "1" * 5000, "-" + "9" * 5000,
]

# No texts of rows.
NO_TEXTS = [
    "", "0", ":", "0:", ":o", "o", "nones", "None", "00:o", "-0:o", "+1:o", "01:o", "0:.o", "0:o.", "0:.", "0:O",
    "0:oxo", "0:o\n", "\n0:o", "0:o\t", "0:" + "o" * 13, "1000000001:o", "-1000000001:o", "1000000000:oo", "a",
    "0:o" + "." * 199 + "o", "\u0661:o", "1" * 5000 + ":o", "(0,)", "()", "0:o:o", "0:o\x00",
]


def furnished():
    """A desk that keeps ROWS."""
    desk = Desk()
    for name, row in ROWS.items():
        if desk.say(f"row {name} {row_text(row)}") != "ok":
            raise AssertionError(name)
    return desk


def all_of(desk):
    """The names and texts of all that a desk keeps."""
    names = desk.say("kept")
    return {name: desk.say(f"show {name}") for name in names.split(" ") if name}


def numbers(told):
    return " ".join(map(str, told)) if told else "none"


class DeskCase(unittest.TestCase):

    def refused(self, desk, wanted, line):
        """Refused with just this class, and behind it the names and the rows are as they were."""
        with self.subTest(line=line):
            before = all_of(desk)
            check_refused(self, wanted, desk.say, line)
            self.assertEqual(all_of(desk), before)

    def said(self, desk, line, wanted):
        told = desk.say(line)
        self.assertIs(type(told), str)
        self.assertEqual(told, wanted, line)


class Answers(DeskCase):

    def test_by_hand(self):
        desk = Desk()
        for line, wanted in [
            ("kept", ""),
            ("row a 0:ooo..o", "ok"),
            ("kept", "a"),
            ("show a", "0:ooo..o"),
            ("later a 1 b", "ok"),
            ("show b", "3:oo.oo"),
            ("later b -1 c", "ok"),
            ("show c", "0:ooo..o"),
            ("later a 0 same", "ok"),
            ("show same", "0:ooo..o"),
            ("small a 2 b", "ok"),
            ("show b", "2:ooo.o"),
            ("peel a peeled", "ok"),
            ("show peeled", "0:oo"),
            ("kept", "a b c peeled same"),
            ("lengths a", "3 1"),
            ("takings a", "2 3 4 4"),
            ("free a", "2"),
            ("later a 2 d", "ok"),
            ("show d", "5:o..ooo"),
            ("free d", "yes"),
            ("alike a d", "yes"),
            ("alike a peeled", "no"),
            ("row none none", "ok"),
            ("show none", "none"),
            ("lengths none", "none"),
            ("takings none", "none"),
            ("free none", "yes"),
            ("alike none none", "yes"),
            ("alike none a", "no"),
            ("later none 60 none", "ok"),
            ("small none 12 none", "ok"),
            ("peel none none", "ok"),
            ("show none", "none"),
            ("kept", "a b c d none peeled same"),
        ]:
            self.said(desk, line, wanted)

    def test_as_the_functions_tell(self):
        desk = Desk()
        other = (0, 1, 2, 5)
        self.said(desk, "row other 0:ooo..o", "ok")
        for row in near_rows():
            self.said(desk, f"row a {row_text(row)}", "ok")
            self.said(desk, "show a", row_text(row))
            self.said(desk, "lengths a", numbers(lengths(row)))
            self.said(desk, "takings a", numbers(takings(row)))
            self.said(desk, "peel a b", "ok")
            self.said(desk, "show b", row_text(peeled(row)))
            self.said(desk, "alike a other", "yes" if one_making(row, other) else "no")
            self.said(desk, "alike other a", "yes" if one_making(row, other) else "no")
            try:
                steps = steps_to_free(row)
            except TooLong:
                self.refused(desk, TooLong, "free a")
            else:
                self.said(desk, "free a", str(steps) if steps else "yes")
            self.said(desk, "show a", row_text(row))

    def test_later_and_small(self):
        desk = Desk()
        for row in list(small_rows(5)) + list(mixed_rows(24)):
            self.said(desk, f"row a {row_text(row)}", "ok")
            for steps in (-60, -59, -10, -1, 0, 1, 9, 10, 59, 60):
                self.said(desk, f"later a {steps} b", "ok")
                self.said(desk, "show b", row_text(later(row, steps)))
            for size in range(1, 13):
                self.said(desk, f"small a {size} b", "ok")
                self.said(desk, "show b", row_text(carried_by(row, size)))
            self.said(desk, "show a", row_text(row))

    def test_at_the_bounds(self):
        desk = Desk()
        for text in ["1000000000:o", "-1000000000:o", "999999999:oo", "0:o" + "." * 198 + "o"]:
            self.said(desk, f"row a {text}", "ok")
            self.said(desk, "show a", text)

    def test_far_rows_that_are_kept_only(self):
        # Rows that drift far apart are not written, but their answers are told.
        desk = Desk()
        self.said(desk, f"row a 0:o{'.' * 180}{'o' * 11}", "ok")
        for turn in range(40):
            self.said(desk, "later a 60 a", "ok")
        self.said(desk, "lengths a", "11 1")
        self.said(desk, "takings a", numbers([2] + list(range(3, 13)) + [12]))
        self.said(desk, "free a", "yes")
        for turn in range(40):
            self.said(desk, "later a -60 a", "ok")
        self.said(desk, "show a", f"0:o{'.' * 180}{'o' * 11}")

    def test_steps_to_free(self):
        desk = Desk()
        for gap in range(2, 62):
            self.said(desk, f"row a 0:oo{'.' * (gap - 1)}o", "ok")
            self.said(desk, "free a", str(steps_to_free((0, 1, gap + 1))))
        self.said(desk, "free a", "60")
        self.said(desk, "later a 60 a", "ok")
        self.said(desk, "free a", "yes")

    def test_names(self):
        desk = Desk()
        names = ["z", "a", "zz", "az", "abcdefgh", "zzzzzzzz", "aaaaaaaa", "b", "ab", "aa", "qrstuvwx", "ijklmnop", "y"]
        names += ["row", "kept", "show", "later", "small", "peel", "lengths", "takings", "free", "alike", "ok", "none"]
        for many, name in enumerate(names):
            self.said(desk, f"row {name} {many}:o", "ok")
            self.said(desk, "kept", " ".join(sorted(names[:many + 1])))
        for many, name in enumerate(names):
            self.said(desk, f"show {name}", f"{many}:o")
        self.said(desk, "alike row kept", "yes")

    def test_each_letter(self):
        desk = Desk()
        letters = "abcdefghijklmnopqrstuvwxyz"
        for letter in reversed(letters):
            for many in range(1, 9):
                self.said(desk, f"row {letter * many} 0:o", "ok")
        self.said(desk, "kept", " ".join(letter * many for letter in letters for many in range(1, 9)))

    def test_in_the_stead_of_an_elder_one(self):
        desk = Desk()
        self.said(desk, "row a 0:o", "ok")
        self.said(desk, "row b 0:ooo", "ok")
        self.said(desk, "row a 5:oo", "ok")
        self.said(desk, "kept", "a b")
        self.said(desk, "show a", "5:oo")
        for line, wanted in [("later b 1 a", "3:ooo"), ("small b 1 a", "1:ooo"), ("peel b a", "0:oo")]:
            self.said(desk, line, "ok")
            self.said(desk, "kept", "a b")
            self.said(desk, "show a", wanted)
            self.said(desk, "show b", "0:ooo")
        self.said(desk, "later a 1 a", "ok")
        self.said(desk, "show a", "2:oo")

    def test_what_is_made_stands_alone(self):
        desk = Desk()
        self.said(desk, "row a 0:oo", "ok")
        self.said(desk, "later a 0 b", "ok")
        self.said(desk, "row a 9:o", "ok")
        self.said(desk, "show b", "0:oo")

    def test_two_desks(self):
        one, other = Desk(), Desk()
        self.said(one, "row a 0:o", "ok")
        self.said(other, "kept", "")
        self.refused(other, NoRow, "show a")
        self.said(other, "row a 5:oo", "ok")
        self.said(other, "row b none", "ok")
        self.said(one, "show a", "0:o")
        self.said(one, "kept", "a")
        self.said(Desk(), "kept", "")

    def test_asked_again(self):
        desk = furnished()
        lines = ["kept", "show a", "lengths a", "takings a", "free a", "alike a b", "alike a a", "show b"]
        first = [desk.say(line) for line in lines]
        self.assertEqual([desk.say(line) for line in reversed(lines)], first[::-1])

    def test_numbers_of_thirty_figures(self):
        desk = furnished()
        for figures in ("1" + "0" * 29, "9" * 30, "-1" + "0" * 29, "-" + "9" * 30):
            for word in ("later", "small"):
                self.refused(desk, NoNumber, f"{word} a {figures} n")
                self.refused(desk, BadNote, f"{word} a {figures}0 n")


class Refusals(DeskCase):

    def setUp(self):
        self.desk = furnished()

    def test_lines_are_answered(self):
        for line in LINES:
            self.assertIsInstance(furnished().say(line), str, line)

    def test_no_lines(self):
        for line in [
            "", " ", "  ", "\n", "a", "none", "ok", "Kept", "KEPT", "keep", "kep", "keptt", "kept?", "help", "a b", "0",
            "rows a 0:o", "row", "row a", "row 0:o", "row 0:o a", "show", "SHOW a", "Show a", "shows a", "later",
            "later a", "later a 1", "later 1 a n", "later a n 1", "small a n 2", "small a", "small a 2", "peel",
            "peel a", "peels a n", "lengths", "length a", "takings", "taking a", "taken a", "free", "Free a",
            "alike", "alike a", "like a b", "undo a", "drop a", "carried a", "waves a", "blocks a", "N", "A",
            "row N TEXT",
        ]:
            self.refused(self.desk, BadNote, line)

    def test_a_word_too_many_or_too_few(self):
        for line in LINES:
            words = line.split(" ")
            for more in ("a", "n", "1", "0:o", "none", "kept", ""):
                for at in range(len(words) + 1):
                    self.refused(self.desk, BadNote, " ".join(words[:at] + [more] + words[at:]))
            for at in range(len(words)):
                fewer = " ".join(words[:at] + words[at + 1:])
                if fewer != "kept":
                    self.refused(self.desk, BadNote, fewer)

    def test_another_first_word(self):
        for line in LINES:
            word, blank, rest = line.partition(" ")
            for wrong in [word[:-1], word + "s", word.upper(), word.title(), word + "\n", "\t" + word, "", "x",
                          "\u043a" + word, word + "\x00", word + ":", "/" + word]:
                self.refused(self.desk, BadNote, wrong + blank + rest)

    def test_other_signs_between_ahead_and_behind(self):
        for line in LINES:
            for sign in [" ", "  ", "\t", "\n", "\r", "\r\n", "\x0b", "\x0c", "\x00", "\x1c", "\x85", "\u00a0",
                         "\u2003", "\u2028", "\u3000", "\ufeff", ",", ";"]:
                self.refused(self.desk, BadNote, line + sign)
                self.refused(self.desk, BadNote, sign + line)
                if " " in line:
                    for at in [at for at, there in enumerate(line) if there == " "]:
                        self.refused(self.desk, BadNote, line[:at] + sign + line[at:])
                        if sign != " ":
                            self.refused(self.desk, BadNote, line[:at] + sign + line[at + 1:])

    def test_no_names(self):
        for wrong in NO_NAMES:
            for line in [
                f"row {wrong} 0:o", f"show {wrong}", f"later {wrong} 1 n", f"later a 1 {wrong}", f"small {wrong} 1 n",
                f"small a 1 {wrong}", f"peel {wrong} n", f"peel a {wrong}", f"lengths {wrong}", f"takings {wrong}",
                f"free {wrong}", f"alike {wrong} a", f"alike a {wrong}", f"alike {wrong} {wrong}",
            ]:
                self.refused(self.desk, BadNote, line)

    def test_no_names_ahead_of_nothing_kept_and_refused_numbers(self):
        for wrong in ["A", "a1", "abcdefghi", "", "a\n"]:
            for line in [
                f"row {wrong} 0:oo.", f"later x 1 {wrong}", f"later x 99 {wrong}", f"later a 99 {wrong}",
                f"later {wrong} 99 n", f"small x 1 {wrong}", f"small x 99 {wrong}", f"small a 0 {wrong}",
                f"small {wrong} 0 n", f"peel x {wrong}", f"alike x {wrong}", f"alike {wrong} x",
            ]:
                self.refused(self.desk, BadNote, line)

    def test_no_numbers(self):
        for wrong in NO_WRITTEN_NUMBERS:
            for word in ("later", "small"):
                for line in [f"{word} a {wrong} n", f"{word} x {wrong} n", f"{word} far {wrong} far"]:
                    self.refused(self.desk, BadNote, line)

    def test_no_texts(self):
        for wrong in NO_TEXTS:
            for name in ("a", "n", "A"):
                self.refused(self.desk, BadNote, f"row {name} {wrong}")

    def test_no_text_at_all(self):
        for thing in THINGS + NO_NUMBERS + HUGE + [
            0, 1, ["kept"], ("kept",), {"kept": 1}, ["show", "a"], ("show", "a"), [["kept"]], {"show": "a"}, [None],
        ]:
            self.refused(self.desk, BadNote, thing)

    def test_nothing_kept(self):
        for name in ("x", "n", "ab", "aa", "row", "none", "abcdefgh", "show"):
            for line in [
                f"show {name}", f"later {name} 1 n", f"later {name} 1 a", f"later {name} 1 {name}", f"small {name} 1 n",
                f"small {name} 1 a", f"peel {name} n", f"peel {name} a", f"lengths {name}", f"takings {name}",
                f"free {name}", f"alike {name} a", f"alike a {name}", f"alike {name} {name}",
            ]:
                self.refused(self.desk, NoRow, line)
                self.refused(Desk(), NoRow, line)

    def test_nothing_kept_ahead_of_refused_numbers(self):
        for number in (-61, 61, 0, 13, -1, 10 ** 29, -10 ** 30 + 1):
            for word in ("later", "small"):
                self.refused(self.desk, NoRow, f"{word} x {number} n")
                self.refused(self.desk, NoRow, f"{word} x {number} a")
                self.refused(self.desk, NoRow, f"{word} x {number} x")

    def test_nothing_kept_ahead_of_too_long(self):
        self.refused(self.desk, NoRow, "free x")
        self.refused(self.desk, NoRow, "alike far x")

    def test_refused_numbers(self):
        for name, new in itertools.product(("a", "b", "far"), ("a", "n", "b")):
            for number in (-61, 61, -62, 62, 100, -100, 1000, END, -END) + tuple(HUGE):
                self.refused(self.desk, NoNumber, f"later {name} {number} {new}")
            for number in (0, -1, 13, 14, -12, 100, END, -END) + tuple(HUGE):
                self.refused(self.desk, NoNumber, f"small {name} {number} {new}")

    def test_too_long(self):
        self.refused(self.desk, TooLong, "free far")
        self.said(self.desk, "row far 0:oo" + "." * 60 + "o", "ok")
        self.said(self.desk, "free far", "60")
        self.said(self.desk, "row far 0:oo" + "." * 61 + "o", "ok")
        self.refused(self.desk, TooLong, "free far")

    def test_behind_refusals_all_is_as_it_was(self):
        for line in ["row a 0:o.", "later a 61 c", "small a 0 c", "peel x c", "free far", "", None, "alike a x"]:
            with self.assertRaises(ValueError):
                self.desk.say(line)
        self.assertEqual(all_of(self.desk), {name: row_text(row) for name, row in ROWS.items()})
        self.assertEqual(self.desk.say("kept"), "a b c far free kept zzzzzzzz")

    def test_things_changed_later(self):
        thing = ["row", "n", "0:o"]
        self.refused(self.desk, BadNote, thing)
        thing.append("more")
        self.assertEqual(self.desk.say("kept"), "a b c far free kept zzzzzzzz")


if __name__ == "__main__":
    unittest.main()
