"""What the tests share: plain models of what the document tells, rows to try, and things of all kinds."""

import contextlib
import itertools
import signal

END = 1000000000

# Rows with gaps that nobody could go through box by box, and rows at the bounds.
FAR_ROWS = [
    (END,),
    (-END,),
    (-END, END),
    (0, 1, 500000000, 900000000),
    (-END, -END + 1, END - 1, END),
    (-END, -END + 1, -END + 2, -END + 5, 0, 1, 3, END - 7, END - 6, END - 3, END - 1, END),
    (-900000000, -899999999, -400000000, -399999998, 1, 2, 3, 300000000, 300000001),
    tuple(range(END - 11, END + 1)),
    tuple(range(-END, -END + 12)),
    tuple(range(-END, END, 170000000)),
]

# None of these is a whole number.
NO_NUMBERS = [
    True, False, None, "", "1", "0", "12", "one", "-3", (), (1,), (1, 2), [], [1], [[1]], ((1,),),
    {}, {1: 1}, {"size": 2}, {(1, 2): [3]}, [None], (True,), [{"a": [("b", 1)]}],
]

# Whole numbers of thirty figures.
HUGE = [10 ** 29, 10 ** 30 - 1, -10 ** 29, -(10 ** 30 - 1)]


# Things of all kinds that [1] allows, none of them a row, a ring, a motley row, a text that is read or a line.
THINGS = NO_NUMBERS[:3] + HUGE + [
    0, 1, -1, 12, "1", "none ", "0:", "o", "show", " kept", "a" * 400, "\n", "\x00", "\ud800", [], [0], [0, 1], [[]],
    [()], [(0, 1)], [[0, 1]], {}, {0: 1}, {(0, 1): [2, {"a": (3,)}]}, {1: {2: {3: {4: {5: 6}}}}}, (None,), (True,),
    ("a",), ("ab",), ("12",), ((),), ([],), ({},), (0, None), ((0,), 1), (((((0,),),),),), [[[[[0]]]]],
    ([0, 1], [2, 3]), ((0, 1), 5), (5, (0, 1), 2), ((0, 1), None), ((0, 1), [2, 1]), ((0, "1"),), (("0", 1),),
    ((None, None),), tuple([None] * 399), tuple([[]] * 399), list(range(399)), ["kept"], ("kept",), {"kept": 1},
    [None, True, "a", 9],
]


def small_rows(boxes=9):
    """Every row in so many boxes, some of them below 0."""
    places = range(-4, boxes - 4)
    for many in range(boxes + 1):
        yield from itertools.combinations(places, many)


def mixed_rows(many=300):
    """Rows of up to twelve balls at most 200 boxes apart, the same ones each time."""
    seed = 12345
    for turn in range(many):
        row = [turn * 37 - 5000]
        for ball in range(turn % 12):
            seed = (seed * 1103515245 + 12345) % 2 ** 31
            spread = (2, 4, 8, 17)[turn // 12 % 4]
            row.append(row[-1] + 1 + (seed >> 16) % spread)
        yield tuple(row)


def near_rows():
    """Small and mixed rows, all of them near enough to be gone through box by box."""
    yield from small_rows()
    yield from mixed_rows()


def box_by_box(row, size):
    """The row behind a step, the takings and the loads, as the document tells them, one box at a time."""
    behind, taken, loads, load = [], 0, [], 0
    box = row[0] if row else 0
    while row and (box <= row[-1] or load):
        has_ball = box in row
        if has_ball and load < size:
            load, taken, has_ball = load + 1, taken + 1, False
        elif not has_ball and load:
            load, has_ball = load - 1, True
        if has_ball:
            behind.append(box)
        loads.append(load)
        box += 1
    return tuple(behind), taken, loads


def signs_of(row):
    """A near row's boxes from its first ball on, as signs, with empty ones enough behind the last ball."""
    boxes = range(row[0], row[-1] + len(row) + 2) if row else ()
    return "".join("o" if box in row else "." for box in boxes)


def counts_by_signs(row):
    """How many balls of a near row are taken out each time, all at once, the boxes being closed up."""
    signs, counts = signs_of(row), []
    while "o" in signs:
        counts.append(signs.count("o."))
        signs = signs.replace("o.", "")
    return counts


def counts_by_gaps(row):
    """How many balls of any row are taken out each time; told by how many empty boxes are behind each ball."""
    gaps = [place - ball - 1 for ball, place in zip(row, row[1:])] + [END] * len(row[:1])
    counts = []
    while gaps:
        counts.append(sum(1 for gap in gaps if gap))
        left = []
        for gap in gaps:
            if not gap:
                left.append(0)
            elif left:
                left[-1] += gap - 1
        gaps = left
    return counts


def lengths_by_counts(counts):
    """For each ball taken out the first time, how many times at least so many are taken out."""
    return tuple(sum(1 for count in counts if count >= ball) for ball in range(1, (counts or [0])[0] + 1))


def stretched(row, least, more=170000000):
    """The row with each gap of at least so many empty boxes longer by more; and how far each ball is moved."""
    # From near the least place on, so that eleven such gaps still end within the bounds.
    moved, far = {}, -END + 50000000
    for at, place in enumerate(row):
        if at and place - row[at - 1] > least:
            far += more
        moved[place] = far
    return tuple(place + far for place, far in moved.items()), moved


def blocks_by_signs(row):
    """The blocks of a near row, a list of (first place, length)."""
    told, box = [], row[0] if row else 0
    for sign, signs in itertools.groupby(signs_of(row)):
        many = len(list(signs))
        if sign == "o":
            told.append((box, many))
        box += many
    return told


def row_of_blocks(blocks):
    """The row of such blocks."""
    return tuple(first + ball for first, many in blocks for ball in range(many))


def rising_sizes(most, least=1):
    """Every tuple of one or more lengths that never fall, from least on, at most so many balls together."""
    for size in range(least, most + 1):
        yield (size,)
        for more in rising_sizes(most - size, size):
            yield (size,) + more


def all_rings(most, least=1):
    """Every ring of least to most boxes."""
    for many in range(least, most + 1):
        for balls in range((many + 1) // 2):
            for places in itertools.combinations(range(many), balls):
                yield many, places


def ring_by_partners(ring):
    """The ring behind a step: from each ball on, round to where as many empty boxes as balls have been passed."""
    many, balls = ring
    partners = []
    for ball in balls:
        place, more = ball, 1
        while more:
            place = (place + 1) % many
            more += 1 if place in balls else -1
        partners.append(place)
    return many, tuple(sorted(partners))


@contextlib.contextmanager
def soon(seconds=20):
    """Fail, rather than hang, where something goes through all boxes of a far gap."""
    def give_up(number, frame):
        raise AssertionError(f"not done within {seconds} seconds")

    before = signal.signal(signal.SIGALRM, give_up)
    signal.alarm(seconds)
    try:
        yield
    finally:
        signal.alarm(0)
        signal.signal(signal.SIGALRM, before)


def check_row(case, row):
    """Check that what was told is a rising tuple of whole numbers, whatever their bounds."""
    case.assertIs(type(row), tuple)
    for place in row:
        case.assertIs(type(place), int)
    case.assertEqual(list(row), sorted(set(row)))


def check_numbers(case, numbers):
    """Check that what was told is a list of whole numbers."""
    case.assertIs(type(numbers), list)
    for number in numbers:
        case.assertIs(type(number), int)


def check_own(case, function, *arguments):
    """Check that a told list is the asker's own: changed by the asker, the next answer is as it was."""
    first, second = function(*arguments), function(*arguments)
    case.assertIs(type(first), list)
    case.assertIsNot(first, second)
    wanted = list(second)
    case.assertEqual(first, wanted)
    first.insert(0, 99)
    first.pop()
    first.append("more")
    first.reverse()
    case.assertEqual(second, wanted)
    case.assertEqual(function(*arguments), wanted)


def check_refused(case, wanted, function, *arguments):
    """Check that a call is refused with just this class of error, and changes nothing handed in."""
    copy = repr(arguments)
    with case.assertRaises(wanted, msg=copy) as caught:
        function(*arguments)
    case.assertIs(type(caught.exception), wanted)
    case.assertEqual(repr(arguments), copy)
