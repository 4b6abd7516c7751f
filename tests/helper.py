"""What the tests share: a plain model of the carrier, rows to try, and things of all kinds."""

import contextlib
import itertools
import signal

END = 1000000000

# Rows with gaps that nobody could go through box by box, and rows at the bounds.
FAR_ROWS = [
    (END,),
    (-END,),
    (-END, END),
    (0, 1, 500000000, 900000000),
    (-END, -END + 1, END - 1, END),
    (-END, -END + 1, -END + 2, -END + 5, 0, 1, 3, END - 7, END - 6, END - 3, END - 1, END),
    (-900000000, -899999999, -400000000, -399999998, 1, 2, 3, 300000000, 300000001),
    tuple(range(END - 11, END + 1)),
    tuple(range(-END, -END + 12)),
    tuple(range(-END, END, 170000000)),
]

# None of these is a whole number.
NO_NUMBERS = [
    True, False, None, "", "1", "0", "12", "one", "-3", (), (1,), (1, 2), [], [1], [[1]], ((1,),),
    {}, {1: 1}, {"size": 2}, {(1, 2): [3]}, [None], (True,), [{"a": [("b", 1)]}],
]

# Whole numbers of thirty figures.
HUGE = [10 ** 29, 10 ** 30 - 1, -10 ** 29, -(10 ** 30 - 1)]


def small_rows(boxes=9):
    """Every row in so many boxes, some of them below 0."""
    places = range(-4, boxes - 4)
    for many in range(boxes + 1):
        yield from itertools.combinations(places, many)


def mixed_rows(many=300):
    """Rows of up to twelve balls at most 200 boxes apart, the same ones each time."""
    seed = 12345
    for turn in range(many):
        row = [turn * 37 - 5000]
        for ball in range(turn % 12):
            seed = (seed * 1103515245 + 12345) % 2 ** 31
            spread = (2, 4, 8, 17)[turn // 12 % 4]
            row.append(row[-1] + 1 + (seed >> 16) % spread)
        yield tuple(row)


def near_rows():
    """Small and mixed rows, all of them near enough to be gone through box by box."""
    yield from small_rows()
    yield from mixed_rows()


def box_by_box(row, size):
    """The row behind a step, the takings and the loads, as the document tells them, one box at a time."""
    behind, taken, loads, load = [], 0, [], 0
    box = row[0] if row else 0
    while row and (box <= row[-1] or load):
        has_ball = box in row
        if has_ball and load < size:
            load, taken, has_ball = load + 1, taken + 1, False
        elif not has_ball and load:
            load, has_ball = load - 1, True
        if has_ball:
            behind.append(box)
        loads.append(load)
        box += 1
    return tuple(behind), taken, loads


@contextlib.contextmanager
def soon(seconds=20):
    """Fail, rather than hang, where something goes through all boxes of a far gap."""
    def give_up(number, frame):
        raise AssertionError(f"not done within {seconds} seconds")

    before = signal.signal(signal.SIGALRM, give_up)
    signal.alarm(seconds)
    try:
        yield
    finally:
        signal.alarm(0)
        signal.signal(signal.SIGALRM, before)


def check_row(case, row):
    """Check that what was told is a rising tuple of whole numbers, whatever their bounds."""
    case.assertIs(type(row), tuple)
    for place in row:
        case.assertIs(type(place), int)
    case.assertEqual(list(row), sorted(set(row)))


def check_numbers(case, numbers):
    """Check that what was told is a list of whole numbers."""
    case.assertIs(type(numbers), list)
    for number in numbers:
        case.assertIs(type(number), int)


def check_refused(case, wanted, function, *arguments):
    """Check that a call is refused with just this class of error, and changes nothing handed in."""
    copy = repr(arguments)
    with case.assertRaises(wanted, msg=copy) as caught:
        function(*arguments)
    case.assertIs(type(caught.exception), wanted)
    case.assertEqual(repr(arguments), copy)
