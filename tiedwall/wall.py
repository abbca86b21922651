"""The calls on a wall, taken one behind another from one list, and their answers in another."""

from tiedwall.strips import passage, table_with, reached, together, first_of_part, firsts
from tiedwall.strips import end_firsts, start_firsts, needed_at_least, may_lean
from tiedwall.frame import KINDS, Wall, strip_count, ties_without, passages_by, table_by, table_of, part_count
from tiedwall.frame import has_square, has_spot, has_strip, all_squares, all_spots, other_kind, lean_count, is_spare
from tiedwall.fewest import fewest

NONE_SUCH = -2
NOT_THERE = -6
NOT_BEGUN = -11
THERE_ALREADY = -17
OUT_OF_RANGE = -22
TOO_MANY = -28
NOT_SO = -33
NOT_REFUSED = 0

MOST_IN_A_LINE = 5
MOST_SQUARES_TO_PUT = 9
MOST_TIES_TO_PUT = 4
BEGIN = 0
TURN = 11


def flat(spots):
    numbers = []
    for spot in spots:
        numbers.extend(spot)
    return numbers


def in_range(size):
    return 1 <= size and size <= MOST_IN_A_LINE


def as_number(truth):
    # An answer holds whole numbers alone, never True or False.
    return 1 if truth else 0


def refusal_if_there(wall, spot):
    if not has_spot(wall, spot):
        return NONE_SUCH
    if spot in wall.ties:
        return THERE_ALREADY
    return NOT_REFUSED


def refusal_if_missing(wall, spot):
    if not has_spot(wall, spot):
        return NONE_SUCH
    if spot not in wall.ties:
        return NOT_THERE
    return NOT_REFUSED


def begin(wall, given):
    if not in_range(given[0]) or not in_range(given[1]):
        return [OUT_OF_RANGE]
    wall.rows = given[0]
    wall.columns = given[1]
    wall.ties = []
    return [0]


def tie(wall, given):
    spot = tuple(given)
    refusal = refusal_if_there(wall, spot)
    if refusal != NOT_REFUSED:
        return [refusal]
    wall.ties.append(spot)
    return [part_count(wall)]


def free(wall, given):
    spot = tuple(given)
    refusal = refusal_if_missing(wall, spot)
    if refusal != NOT_REFUSED:
        return [refusal]
    wall.ties.remove(spot)
    return [part_count(wall)]


def firm(wall, given):
    parts_now = part_count(wall)
    return [as_number(parts_now == 1), parts_now]


def reach(wall, given):
    if not has_strip(wall, given[0]):
        return [NONE_SUCH]
    strips = reached(table_of(wall), given[0])
    return [len(strips)] + strips


def part(wall, given):
    if not has_strip(wall, given[0]):
        return [NONE_SUCH]
    strips = together(table_of(wall), given[0])
    return [len(strips)] + strips


def parts(wall, given):
    table = table_of(wall)
    return [len(table)] + [first_of_part(table, strip) for strip in range(len(table))]


def ends(wall, given):
    table = table_of(wall)
    last = end_firsts(table)
    foremost = start_firsts(table)
    return [len(last), len(foremost)] + last + foremost


def leans(wall, given):
    spot = tuple(given)
    if not has_spot(wall, spot):
        return [NONE_SUCH]
    return [as_number(may_lean(table_of(wall), wall.rows, spot))]


def all_leans(wall, given):
    table = table_of(wall)
    told = [as_number(may_lean(table, wall.rows, spot)) for spot in all_spots(wall)]
    return [sum(told)] + told


def lean(wall, given):
    spot = tuple(given)
    if not has_spot(wall, spot):
        return [NONE_SUCH]
    table = table_of(wall)
    if not may_lean(table, wall.rows, spot):
        return [NOT_SO]
    # A tie here would hold back the strip from which it leads: so that's the one that turns further.
    further = passage(wall.rows, spot)[0]
    return [len(table)] + [as_number(met) for met in table[further]]


def turn(wall, given):
    # How many numbers the way has stands before it.
    way = given[1:]
    if len(way) != strip_count(wall):
        return [OUT_OF_RANGE]
    keeps = all([way[held] <= way[holder] for held, holder in passages_by(wall, wall.ties)])
    uneven = [row for row, column in all_squares(wall) if way[row] != way[wall.rows + column]]
    return [as_number(keeps), len(uneven)]


def spare(wall, given):
    spot = tuple(given)
    refusal = refusal_if_missing(wall, spot)
    if refusal != NOT_REFUSED:
        return [refusal]
    return [as_number(is_spare(wall, spot))]


def spares(wall, given):
    spots = [spot for spot in wall.ties if is_spare(wall, spot)]
    return [len(spots)] + flat(spots)


def put(wall, given):
    if wall.rows * wall.columns > MOST_SQUARES_TO_PUT:
        return [TOO_MANY]
    spots = fewest(table_of(wall), wall.rows, all_spots(wall), MOST_TIES_TO_PUT)
    if spots is None:
        return [NOT_SO]
    return [len(spots)] + flat(spots)


def would(wall, given):
    spot = tuple(given)
    refusal = refusal_if_there(wall, spot)
    if refusal != NOT_REFUSED:
        return [refusal]
    table = table_of(wall)
    after = table_with(table, passage(wall.rows, spot))
    return [len(firsts(after)), lean_count(wall, table) - lean_count(wall, after)]


def falls(wall, given):
    spot = tuple(given)
    refusal = refusal_if_missing(wall, spot)
    if refusal != NOT_REFUSED:
        return [refusal]
    after = table_by(wall, ties_without(wall, spot))
    return [len(firsts(after)), lean_count(wall, after) - lean_count(wall, table_of(wall))]


def stiff(wall, given):
    row = given[0]
    column = given[1]
    if not has_square(wall, row, column):
        return [NONE_SUCH]
    hangs = wall.rows + column in together(table_of(wall), row)
    both = all([(row, column, kind) in wall.ties for kind in range(KINDS)])
    return [as_number(hangs), as_number(both)]


def flip(wall, given):
    spot = tuple(given)
    refusal = refusal_if_missing(wall, spot)
    if refusal != NOT_REFUSED:
        return [refusal]
    turned = other_kind(spot)
    if turned in wall.ties:
        return [THERE_ALREADY]
    wall.ties[wall.ties.index(spot)] = turned
    return [part_count(wall)]


def ties(wall, given):
    return [len(wall.ties)] + flat(wall.ties)


def state(wall, given):
    return [wall.rows, wall.columns, len(wall.ties), needed_at_least(table_of(wall))]


# Which def answers the call of each number.
CALLS = {
    0: begin,
    1: tie,
    2: free,
    3: firm,
    4: reach,
    5: part,
    6: parts,
    7: ends,
    8: leans,
    9: all_leans,
    10: lean,
    11: turn,
    12: spare,
    13: spares,
    14: put,
    15: would,
    16: falls,
    17: stiff,
    18: flip,
    19: ties,
    20: state,
}

# How many whole numbers stand behind the number of each call but turn, whose way has as many as it says itself.
HOW_MANY_GIVEN = {
    0: 2,
    1: 3,
    2: 3,
    3: 0,
    4: 1,
    5: 1,
    6: 0,
    7: 0,
    8: 3,
    9: 0,
    10: 3,
    12: 3,
    13: 0,
    14: 0,
    15: 3,
    16: 3,
    17: 2,
    18: 3,
    19: 0,
    20: 0,
}


def behind_call(calls, at):
    """Where the next call stands, if one stands here."""
    if calls[at] == TURN:
        return at + 2 + calls[at + 1]
    return at + 1 + HOW_MANY_GIVEN[calls[at]]


def answer_one(wall, number, given):
    if number != BEGIN and wall.rows == 0:
        return [NOT_BEGUN]
    return CALLS[number](wall, given)


def answers(calls):
    """For each call, in order, how many numbers are answered, then these."""
    wall = Wall()
    answered = []
    at = 0
    while at < len(calls):
        behind = behind_call(calls, at)
        answer = answer_one(wall, calls[at], calls[at + 1:behind])
        answered.append(len(answer))
        answered.extend(answer)
        at = behind
    return answered
