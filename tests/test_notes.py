"""Promise 90, and what 1 says of it."""

import itertools
import unittest

from boxballs.errors import BadNote
from boxballs.notes import row_read, row_text
from boxballs.rows import is_row
from tests.helper import END, HUGE, NO_NUMBERS, THINGS, check_refused, check_row, near_rows, small_rows

# Rows of just 200 boxes from the first ball to the last one, and rows at the bounds.
WIDE_ROWS = [
    (0, 199), (-199, 0), (-100, 0, 99), (1, 2, 200), (END - 199, END), (-END, -END + 199),
    (-END, -END + 1, -END + 50, -END + 199), tuple(range(1, 199, 18)) + (200,),
    (0,) + tuple(range(189, 200)), tuple(range(11)) + (199,),
    (END,), (-END,), tuple(range(END - 11, END + 1)), tuple(range(-END, -END + 12)),
]

# Figures that are not 0 to 9, though Python may read them as numbers.
OTHER_FIGURES = ["\u0661", "\u0967", "\uff11", "\u00b2", "\u00b9", "\u2460", "\u4e00", "\U0001d7cf"]

BAD_TEXTS = [
    "", " ", "0", ":", "0:", ":o", "o", ".", "oo", "-", "-:", "-:o", "--1:o", "1-:o", "1-1:o", "- 1:o",
    "none ", " none", "none\n", "None", "NONE", "non", "nonee", "none:", "0:none", "none:o", "nonenone",
    "00:o", "01:o", "-01:o", "-0:o", "-00:o", "+1:o", "+0:o", "000:o", "0001:o",
    "1_0:o", "1.0:o", "1e1:o", "0x1:o", "1,000:o", "a:o", "1a:o",
    " 0:o", "0:o ", "0 :o", "0: o", "0:o o", "0:o.o ", "\t0:o", "0:o\t", "0\t:o", "0:\to",
    "0:o\n", "\n0:o", "0\n:o", "0:\no", "0:o\r", "0:o\r\n", "0:o\x00", "\x000:o", "0:o\u00a0", "\u20070:o", "0:o\u2028",
    "0:.", "0:.o", "0:o.", "0:.o.", "0:..", "0:o..", "0:..o", "0:oo.",
    "0:O", "0:0", "0:o0o", "0:oOo", "0:x", "0:oxo", "0:o-o", "0:o,o", "0:o:o", "0:o:", "0::o", ":0:o", "0:o.o:o",
    "0:o\u2024o", "0:\u03bf", "0:o\u03bf", "0:\u043eo", "0;o", "0\uff1ao", "\u22121:o", "\ud800", "0:\ud800o",
    "0:o\ud800",
    "(0,)", "()", "[]", "0, 1", "0:o 1:o", "0:o0:o",
]


def text_by_signs(row):
    """The text of a row as the document tells it."""
    if not row:
        return "none"
    signs = ["."] * (row[-1] - row[0] + 1)
    for place in row:
        signs[place - row[0]] = "o"
    return str(row[0]) + ":" + "".join(signs)


class Written(unittest.TestCase):

    def test_by_hand(self):
        for row, wanted in [
            ((), "none"),
            ((0,), "0:o"),
            ((-1,), "-1:o"),
            ((10,), "10:o"),
            ((-2, -1, 1), "-2:oo.o"),
            ((0, 1, 2, 5), "0:ooo..o"),
            ((-12, -10), "-12:o.o"),
            ((END,), "1000000000:o"),
            ((-END,), "-1000000000:o"),
            ((END - 2, END), "999999998:o.o"),
            ((0, 199), "0:o" + "." * 198 + "o"),
            (tuple(range(12)), "0:oooooooooooo"),
        ]:
            self.assertEqual(row_text(row), wanted)
            self.assertEqual(row_read(wanted), row)

    def test_read_back(self):
        for row in list(near_rows()) + WIDE_ROWS:
            self.assertIs(is_row(row), True)
            text = row_text(row)
            self.assertIs(type(text), str)
            self.assertEqual(text, text_by_signs(row))
            told = row_read(text)
            check_row(self, told)
            self.assertEqual(told, row)

    def test_wherever_it_stands(self):
        for row in small_rows(6):
            for far in (-END + 4, -1000, -10, 9, 10, 99, 100, 12345, END - 5):
                moved = tuple(place + far for place in row)
                self.assertEqual(row_text(moved), text_by_signs(moved))
                self.assertEqual(row_read(text_by_signs(moved)), moved)

    def test_asked_again(self):
        rows = [(), (0,), (0, 1, 2, 5)] + WIDE_ROWS
        texts = [row_text(row) for row in rows]
        self.assertEqual([row_text(row) for row in rows[::-1]], texts[::-1])
        self.assertEqual([row_read(text) for text in texts], [row_read(text) for text in texts])


class Read(unittest.TestCase):

    def refused(self, thing):
        with self.subTest(thing=thing):
            check_refused(self, BadNote, row_read, thing)

    def test_bad_texts(self):
        for text in BAD_TEXTS:
            self.refused(text)

    def test_short_texts(self):
        # Of all texts of at most five of these signs, just those that are written are read.
        written = {"none": ()}
        for first in range(-99, 1000):
            for signs in ("o", "oo", "ooo", "o.o"):
                written[f"{first}:{signs}"] = tuple(first + at for at, sign in enumerate(signs) if sign == "o")
        read = 0
        for many in range(6):
            for signs in itertools.product("012-:o.", repeat=many):
                text = "".join(signs)
                if text in written:
                    self.assertEqual(row_read(text), written[text])
                    read += 1
                else:
                    check_refused(self, BadNote, row_read, text)
        self.assertGreater(read, 40)

    def test_more_than_200_boxes(self):
        self.assertEqual(row_read("0:o" + "." * 197 + "o"), (0, 198))
        self.assertEqual(row_read("0:o" + "." * 198 + "o"), (0, 199))
        for text in ["0:o" + "." * 199 + "o", "-5:oo" + "." * 198 + "o", "0:o" + "." * 1000 + "o", "0:" + "o" * 201,
                     "7:" + "." * 201, "0:o" + "." * 100000 + "o"]:
            self.refused(text)

    def test_thirteen_balls(self):
        self.assertEqual(row_read("0:" + "o" * 12), tuple(range(12)))
        self.assertEqual(row_read("0:" + "o." * 11 + "o"), tuple(range(0, 24, 2)))
        for text in ["0:" + "o" * 13, "-6:" + "o" * 13, "0:" + "o." * 12 + "o", "0:" + "o" * 12 + "." * 187 + "o",
                     "0:" + "o" * 200]:
            self.refused(text)

    def test_places_beyond_the_bounds(self):
        self.assertEqual(row_read("1000000000:o"), (END,))
        self.assertEqual(row_read("999999999:oo"), (END - 1, END))
        self.assertEqual(row_read("-1000000000:o"), (-END,))
        for text in ["1000000001:o", "-1000000001:o", "1000000000:oo", "999999999:o.o", "999999990:o.........oo",
                     "-1000000001:oo", "10000000000:o", "-9999999999:o", "999999802:o" + "." * 198 + "o"]:
            self.refused(text)

    def test_very_long_numbers(self):
        for many in (11, 29, 30, 31, 400, 4299, 4300, 4301, 5000, 100000):
            for text in ["1" * many + ":o", "-" + "9" * many + ":o", "0" * many + ":o", "1" + "0" * many + ":o",
                         "-" * many + "1:o", "1" * many]:
                self.refused(text)

    def test_other_figures(self):
        for figure in OTHER_FIGURES:
            for text in [f"{figure}:o", f"-{figure}:o", f"1{figure}:o", f"{figure}1:o", f"0:o{figure}o"]:
                self.refused(text)

    def test_one_sign_more_or_another(self):
        # Wherever another sign stands in a text, or one more, it is no row's text any more.
        for text in ["none", "0:o", "-2:oo.o", "10:o..o"]:
            for at in range(len(text) + 1):
                for sign in " \t\n\r\x00+_,OxX\u0661\u00b2":
                    self.refused(text[:at] + sign + text[at:])
                    if at < len(text):
                        self.refused(text[:at] + sign + text[at + 1:])

    def test_things_that_are_no_texts(self):
        for thing in THINGS + NO_NUMBERS + HUGE + [
            0, 1, -1, (0, 1), (0,), [0, 1], ["0:o"], ("0:o",), {"0:o": 1}, [["0:o"]], ("none",), ["none"], {"none": 1},
        ]:
            self.refused(thing)

    def test_refused_again(self):
        for thing in ["0:o.", "0:o.", None, None]:
            self.refused(thing)
        self.assertEqual(row_read("0:o"), (0,))
        self.refused("00:o")


if __name__ == "__main__":
    unittest.main()
