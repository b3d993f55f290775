"""Rows, wrong things and plain models that several tests use.

The models follow the words of the document as directly as they can, and use nothing
of the package.
"""

from itertools import permutations
from unittest.mock import ANY

HUGE = 10 ** 40
SHELVES = [(word, places) for word in ("light", "heavy") for places in range(10)]

# Rows of 24 numbers: multiples of each step, modulo a prime, are all unlike.
LONG = [tuple(at * step % 29 - 11 for at in range(1, 25)) for step in range(1, 29)]

UNMARKED = [
    row
    for numbers in ((), (5,), (-3, 0), (-3, 0, HUGE), (-HUGE, -1, 4, 7), (-2, -1, 0, 1, 2))
    for row in permutations(numbers)
] + LONG

MARKED = (
    [(None,), (None, None), (None,) * 24, (None, 4), (4, None), (None, 4, None)]
    + list(dict.fromkeys(permutations((-7, 0, HUGE, 3, None, None))))
    + [
        tuple(None if place % 7 == step % 7 else one for place, one in enumerate(row))
        for step, row in enumerate(LONG)
    ]
)

ROWS = UNMARKED + MARKED

FALLING = [tuple(range(many, 0, -1)) for many in range(25)]

# Rising rows, of which one number was taken out and put behind all.
ONE_BEHIND = [
    tuple(one for one in range(many) if one != last) + (last,)
    for many in range(1, 25)
    for last in range(many)
]

# ANY equals everything, and is yet no number, no word and no places.
NOT_ROWS = [
    None, 5, 0, True, False, "", "12", b"12", [], [1, 2], [None], {}, {1: 2}, set(), {1}, range(3),
    object(), int, len, ANY, (ANY,), (1, ANY),
    (True,), (False,), (1, True), (0, False), (None, True), (2, None, False),
    (1, 1), (1, None, 1), (0, 2, None, None, 0), (HUGE, HUGE), (-1, -1),
    ("1",), (1, "2"), ("",), (b"1",), ((),), (1, (2,)), (1, [2]), ([],), ({},), (set(),), (object(),),
    tuple(range(25)), (None,) * 25, tuple(range(24)) + (None,), (1,) * 25, tuple(range(1000)),
]

NOT_PLACES = [
    None, True, False, -1, 10, 72, HUGE, -HUGE, "1", "", b"1", (), (1,), [], [1], {}, set(), object(),
    ANY,
]

NOT_WHOLES = [
    None, True, False, "1", "", b"1", (), (1,), [], [1], {}, {1: 1}, set(), range(1), object(), int, ANY,
]

NOT_WORDS = [
    None, True, 0, 1, "", "Light", "LIGHT", " light", "light ", "lights", "heav", "medium", b"light",
    ["light"], ("light",), {"light"}, {"light": 1}, object(), str,
    ANY,
]

NOT_SHELVES = (
    [("light", places) for places in NOT_PLACES]
    + [("heavy", places) for places in NOT_PLACES]
    + [(word, 3) for word in NOT_WORDS]
    + [
        None, True, 0, 3, "", "light", "light 3", "ab", [], {}, set(), object(), ANY,
        (), ("light",), (3,), ("light", 3, 3), ("light", 3, None), (3, "light"), (("light", 3),),
        ["light", 3], {"light": 3}, {"light", 3},
    ]
)

NOT_LINES = (
    [None, True, 0, "", "light", {}, set(), object(), [], [("light", 3)], ("light", 3)]
    + [(shelf,) for shelf in NOT_SHELVES]
    + [(("light", 3), shelf, ("heavy", 0)) for shelf in NOT_SHELVES]
    + [(("light", 3),) * 9, (("heavy", 0),) * 9, (("light", 1),) * 1000]
)


def numbers_of(row):
    return [thing for thing in row if thing is not None]


def stretches_of(row):
    """Split a row at its marks."""
    marks = [-1] + [place for place, thing in enumerate(row) if thing is None] + [len(row)]
    return [row[one + 1:other] for one, other in zip(marks, marks[1:])]


def marks_of(row):
    return [place for place, thing in enumerate(row) if thing is None]


def greater_ahead(row):
    """Count for each number the greater ones ahead, marks or not."""
    return {
        one: sum(1 for other in numbers_of(row[:place]) if other > one)
        for place, one in enumerate(row)
        if one is not None
    }


def lesser_ahead(row):
    return {-one: many for one, many in greater_ahead(opposite_of(row)).items()}


def near(ahead, row):
    """Count as `ahead` does, but stretch by stretch."""
    told = {}
    for stretch in stretches_of(row):
        told.update(ahead(stretch))
    return told


def opposite_of(row):
    return tuple(None if thing is None else -thing for thing in row)


def counts_with(row, places):
    """Tell each number's count behind a light shelf with places that change, as [15] does."""
    return {
        one: max(
            [0]
            + [
                sum(1 for other in row[:at + 1] if other > one) - places[at]
                for at in range(place)
            ]
        )
        for place, one in enumerate(row)
    }


def is_sorted(row):
    return numbers_of(row) == sorted(numbers_of(row))


def row_with(counts):
    """Put numbers in order so that each has the count that a dict tells for it."""
    row = []
    for one in sorted(counts, reverse=True):
        row.insert(counts[one], one)
    return tuple(row)


def light_past(row, places):
    """Tell what comes out behind a light shelf, of however many places, by [6] and [4]."""
    came = []
    for stretch in stretches_of(row):
        less = {one: max(0, many - places) for one, many in greater_ahead(stretch).items()}
        came += [*row_with(less), None]
    return tuple(came[:-1])


def shelf_past(row, shelf):
    word, places = shelf
    if word == "light":
        return light_past(row, places)
    return opposite_of(light_past(opposite_of(row), places))


def line_past(row, line):
    for shelf in line:
        row = shelf_past(row, shelf)
    return row
