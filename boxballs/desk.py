"""A desk, which keeps rows by names and answers lines."""

from boxballs.carriers import carried_by, takings
from boxballs.errors import BadNote, NoRow
from boxballs.free import steps_to_free
from boxballs.notes import NO_BALLS, number_read, row_read, row_text
from boxballs.pairs import peeled
from boxballs.rows import later
from boxballs.waves import lengths, one_making

LETTERS = "abcdefghijklmnopqrstuvwxyz"
LONGEST_NAME = 8

# What stands behind the first word of a line: A is the name of a row that is kept, N one to keep a row by, K a number.
FORMS = {
    "row": ("N", "TEXT"),
    "kept": (),
    "show": ("A",),
    "later": ("A", "K", "N"),
    "small": ("A", "K", "N"),
    "peel": ("A", "N"),
    "lengths": ("A",),
    "takings": ("A",),
    "free": ("A",),
    "alike": ("A", "A"),
}


def need_name(word):
    """Refuse a word that is no name."""
    if not 1 <= len(word) <= LONGEST_NAME or not all([letter in LETTERS for letter in word]):
        raise BadNote(f"a name of 1 to {LONGEST_NAME} small letters is due")


def part_read(form, word):
    """What a word of a line tells: a row, a number, or a name."""
    if form == "TEXT":
        return row_read(word)
    if form == "K":
        return number_read(word)
    need_name(word)
    return word


def line_read(line):
    """The first word of a line, and the list of what follows, as tuples (form, part)."""
    if not isinstance(line, str):
        raise BadNote("a line is a text")
    # Only a blank parts words, so that a second one, a tab or a line end comes to be part of a wrong word.
    word, *rest = line.split(" ")
    if word not in FORMS or len(rest) != len(FORMS[word]):
        raise BadNote("no such line is known")
    return word, [(form, part_read(form, part)) for form, part in zip(FORMS[word], rest)]


def numbers_text(numbers):
    """Numbers with blanks between, or the text for none."""
    return " ".join([str(number) for number in numbers]) if numbers else NO_BALLS


def row_to_keep(word, given):
    """The row that a line asks to be kept, made of what it gives beside the name."""
    if word == "later":
        return later(given[0], given[1])
    if word == "small":
        return carried_by(given[0], given[1])
    if word == "peel":
        return peeled(given[0])
    return given[0]


def answer(word, given):
    """The answer to a line that asks about rows."""
    if word == "lengths":
        return numbers_text(lengths(given[0]))
    if word == "takings":
        return numbers_text(takings(given[0]))
    if word == "free":
        steps = steps_to_free(given[0])
        return str(steps) if steps else "yes"
    if word == "alike":
        return "yes" if one_making(given[0], given[1]) else "no"
    return row_text(given[0])


class Desk:
    """Keeps rows by names."""

    def __init__(self):
        self.rows = {}

    def row_of(self, name):
        """The row that is kept by a name."""
        if name not in self.rows:
            raise NoRow("nothing is kept by this name")
        return self.rows[name]

    def say(self, line):
        """The answer to a line."""
        word, parts = line_read(line)
        if word == "kept":
            return " ".join(sorted(self.rows))
        given = [self.row_of(part) if form == "A" else part for form, part in parts if form != "N"]
        names = [part for form, part in parts if form == "N"]
        if not names:
            return answer(word, given)
        # What is refused has been refused before anything is kept.
        self.rows[names[0]] = row_to_keep(word, given)
        return "ok"
