"""Numbers and rows as texts."""

from boxballs.errors import BadNote
from boxballs.rows import is_row

FIGURES = "0123456789"
MOST_FIGURES = 30
MOST_BOXES = 200
NO_BALLS = "none"


def number_read(text):
    """The number that a text writes, of at most thirty figures."""
    figures = text[1:] if text.startswith("-") else text
    # Python would read blanks, underscores and the figures of other scripts too, and refuse very long texts on its own.
    if not 1 <= len(figures) <= MOST_FIGURES or not all([sign in FIGURES for sign in figures]):
        raise BadNote(f"a number of at most {MOST_FIGURES} figures is due")
    number = int(text)
    if str(number) != text:
        raise BadNote("a number is written without a nought ahead")
    return number


def row_text(row):
    """The text that writes a row."""
    if not row:
        return NO_BALLS
    signs = "".join(["o" if box in row else "." for box in range(row[0], row[-1] + 1)])
    return f"{row[0]}:{signs}"


def row_read(text):
    """The row that a text writes."""
    if not isinstance(text, str):
        raise BadNote("a text is due")
    if text == NO_BALLS:
        return ()
    first, mark, signs = text.partition(":")
    if len(signs) > MOST_BOXES:
        raise BadNote(f"a row of at most {MOST_BOXES} boxes is due")
    start = number_read(first)
    row = tuple([start + at for at, sign in enumerate(signs) if sign == "o"])
    # Written again it is another text where a sign is wrong, or no ball is first or last.
    if not is_row(row) or row_text(row) != text:
        raise BadNote("a row as it is written is due")
    return row
