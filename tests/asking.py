"""Calls by their names, for the tests: written into one list, and its answers taken apart again."""

from tiedwall.wall import answers

NUMBERS = {
    "begin": 0,
    "tie": 1,
    "free": 2,
    "firm": 3,
    "reach": 4,
    "part": 5,
    "parts": 6,
    "ends": 7,
    "leans": 8,
    "all_leans": 9,
    "lean": 10,
    "turn": 11,
    "spare": 12,
    "spares": 13,
    "put": 14,
    "would": 15,
    "falls": 16,
    "stiff": 17,
    "flip": 18,
    "ties": 19,
    "state": 20,
}

HUGE = 4294967295


def written(calls):
    """One list of whole numbers for calls like ("tie", 0, 1, 0) and ("turn", [0, 1, 1])."""
    numbers = []
    for call in calls:
        numbers.append(NUMBERS[call[0]])
        for given in call[1:]:
            if isinstance(given, list):
                numbers.append(len(given))
                numbers.extend(given)
            else:
                numbers.append(given)
    return numbers


def taken_apart(answered):
    """A list for each call, from one list with how many numbers before each."""
    told = []
    at = 0
    while at < len(answered):
        behind = at + 1 + answered[at]
        if answered[at] < 1 or behind > len(answered):
            raise AssertionError(f"no whole answer at {at} of {answered}")
        told.append(answered[at + 1:behind])
        at = behind
    return told


def ask(*calls):
    """What is answered to each of the calls on one new object."""
    told = taken_apart(answers(written(calls)))
    if len(told) != len(calls):
        raise AssertionError(f"{len(calls)} calls, {len(told)} answers")
    return told


def ask_last(*calls):
    return ask(*calls)[-1]


def ask_behind(made, *calls):
    """What is answered to the calls behind those that made the wall."""
    return ask(*made, *calls)[len(made):]


def first_difference(told, asked_for):
    """Where two long lists differ, else None; unittest's own telling of it takes minutes for some."""
    if len(told) != len(asked_for):
        return (len(told), len(asked_for))
    for place, both in enumerate(zip(told, asked_for)):
        if both[0] != both[1]:
            return (place,) + both
    return None


def wall(rows, columns, spots):
    """The calls that make a wall with ties at these spots."""
    return [("begin", rows, columns)] + [("tie",) + spot for spot in spots]


# Of a wall of 2 by 2: row 0, column 0, row 1, column 1, and row 0 again.
RING = [(0, 0, 0), (1, 0, 1), (1, 1, 0), (0, 1, 1)]
RING_WITH_ONE_TURNED = [(0, 0, 0), (1, 0, 1), (1, 1, 0), (0, 1, 0)]
# Of a wall of 4 by 4: such a ring of strips 0, 1, 4, 5, another of 2, 3, 6, 7, and one tie from row 0 to column 2.
SECOND_RING = [(row + 2, column + 2, kind) for row, column, kind in RING]
TWO_RINGS = RING + SECOND_RING
JOINED_RINGS = TWO_RINGS + [(0, 2, 0)]

# One call of every name, with arguments that a wall of one square has.
EVERY_CALL_BUT_BEGIN = [
    ("tie", 0, 0, 0),
    ("free", 0, 0, 0),
    ("firm",),
    ("reach", 0),
    ("part", 0),
    ("parts",),
    ("ends",),
    ("leans", 0, 0, 0),
    ("all_leans",),
    ("lean", 0, 0, 0),
    ("turn", [0, 0]),
    ("spare", 0, 0, 0),
    ("spares",),
    ("put",),
    ("would", 0, 0, 0),
    ("falls", 0, 0, 0),
    ("stiff", 0, 0),
    ("flip", 0, 0, 0),
    ("ties",),
    ("state",),
]

# All that can be asked without an argument, and so of any wall: together they tell all of it.
LOOK = [("firm",), ("parts",), ("ends",), ("all_leans",), ("spares",), ("put",), ("ties",), ("state",)]


def look_around(made, call):
    """What a call behind those that made the wall is answered, and all that's told of the wall before and after."""
    told = ask_behind(made, *LOOK, call, *LOOK)
    return told[len(LOOK)], told[:len(LOOK)], told[len(LOOK) + 1:]


def all_squares(rows, columns):
    return [(row, column) for row in range(rows) for column in range(columns)]


def all_spots(rows, columns):
    """Squares row by row, in each kind 0 ahead of 1."""
    return [square + (kind,) for square in all_squares(rows, columns) for kind in (0, 1)]


def threes(numbers):
    """The spots that stand in an answer one behind another."""
    return [tuple(numbers[at:at + 3]) for at in range(0, len(numbers), 3)]


def every_wall(rows, columns):
    """Each choice of ties there is on a wall of this size."""
    places = all_spots(rows, columns)
    for chosen in range(1 << len(places)):
        yield [spot for place, spot in enumerate(places) if chosen >> place & 1]
