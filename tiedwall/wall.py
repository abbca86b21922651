"""The calls on a wall, taken one behind another from one list, and their answers in another."""

from tiedwall.strips import passage, reach_table, reached, together, first_of_part, firsts
from tiedwall.strips import end_firsts, start_firsts, may_lean

NONE_SUCH = -2
NOT_THERE = -6
NOT_BEGUN = -11
THERE_ALREADY = -17
OUT_OF_RANGE = -22
NOT_SO = -33

MOST_IN_A_LINE = 5
KINDS = 2
BEGIN = 0


class Wall:
    """A wall with no rows is one that hasn't begun: begin takes one row at least."""

    def __init__(self):
        self.rows = 0
        self.columns = 0
        # Kept in the order in which they were put: ties are told in it.
        self.ties = []


def strip_count(wall):
    return wall.rows + wall.columns


def table_of(wall):
    passages = [passage(wall.rows, spot) for spot in wall.ties]
    return reach_table(strip_count(wall), passages)


def part_count(wall):
    return len(firsts(table_of(wall)))


def has_spot(wall, spot):
    return spot[0] < wall.rows and spot[1] < wall.columns and spot[2] < KINDS


def has_strip(wall, strip):
    return strip < strip_count(wall)


def all_spots(wall):
    """Every square row by row, in each kind 0 ahead of 1."""
    spots = []
    for row in range(wall.rows):
        for column in range(wall.columns):
            for kind in range(KINDS):
                spots.append((row, column, kind))
    return spots


def in_range(size):
    return 1 <= size and size <= MOST_IN_A_LINE


def as_number(truth):
    # An answer holds whole numbers alone, never True or False.
    return 1 if truth else 0


def begin(wall, given):
    if not in_range(given[0]) or not in_range(given[1]):
        return [OUT_OF_RANGE]
    wall.rows = given[0]
    wall.columns = given[1]
    wall.ties = []
    return [0]


def tie(wall, given):
    spot = tuple(given)
    if not has_spot(wall, spot):
        return [NONE_SUCH]
    if spot in wall.ties:
        return [THERE_ALREADY]
    wall.ties.append(spot)
    return [part_count(wall)]


def free(wall, given):
    spot = tuple(given)
    if not has_spot(wall, spot):
        return [NONE_SUCH]
    if spot not in wall.ties:
        return [NOT_THERE]
    wall.ties.remove(spot)
    return [part_count(wall)]


def firm(wall, given):
    parts_now = part_count(wall)
    return [as_number(parts_now == 1), parts_now]


def reach(wall, given):
    if not has_strip(wall, given[0]):
        return [NONE_SUCH]
    strips = reached(table_of(wall), given[0])
    return [len(strips)] + strips


def part(wall, given):
    if not has_strip(wall, given[0]):
        return [NONE_SUCH]
    strips = together(table_of(wall), given[0])
    return [len(strips)] + strips


def parts(wall, given):
    table = table_of(wall)
    return [len(table)] + [first_of_part(table, strip) for strip in range(len(table))]


def ends(wall, given):
    table = table_of(wall)
    last = end_firsts(table)
    foremost = start_firsts(table)
    return [len(last), len(foremost)] + last + foremost


def leans(wall, given):
    spot = tuple(given)
    if not has_spot(wall, spot):
        return [NONE_SUCH]
    return [as_number(may_lean(table_of(wall), wall.rows, spot))]


def all_leans(wall, given):
    table = table_of(wall)
    told = [as_number(may_lean(table, wall.rows, spot)) for spot in all_spots(wall)]
    return [sum(told)] + told


def lean(wall, given):
    spot = tuple(given)
    if not has_spot(wall, spot):
        return [NONE_SUCH]
    table = table_of(wall)
    if not may_lean(table, wall.rows, spot):
        return [NOT_SO]
    # A tie here would hold back the strip from which it leads: so that's the one that turns further.
    further = passage(wall.rows, spot)[0]
    return [len(table)] + [as_number(met) for met in table[further]]


# Which def answers the call of each number.
CALLS = {
    0: begin,
    1: tie,
    2: free,
    3: firm,
    4: reach,
    5: part,
    6: parts,
    7: ends,
    8: leans,
    9: all_leans,
    10: lean,
}

# How many whole numbers stand behind the number of each call.
HOW_MANY_GIVEN = {0: 2, 1: 3, 2: 3, 3: 0, 4: 1, 5: 1, 6: 0, 7: 0, 8: 3, 9: 0, 10: 3}


def answer_one(wall, number, given):
    if number != BEGIN and wall.rows == 0:
        return [NOT_BEGUN]
    return CALLS[number](wall, given)


def answers(calls):
    """For each call, in order, how many numbers are answered, then these."""
    wall = Wall()
    answered = []
    at = 0
    while at < len(calls):
        number = calls[at]
        behind = at + 1 + HOW_MANY_GIVEN[number]
        answer = answer_one(wall, number, calls[at + 1:behind])
        answered.append(len(answer))
        answered.extend(answer)
        at = behind
    return answered
