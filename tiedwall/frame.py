"""The wall itself: its squares, strips and ties, and what is told of it with them.

Spots and tables are as in tiedwall.strips.
"""

from tiedwall.strips import passage, met_from, reach_table, firsts, may_lean

KINDS = 2


class Wall:
    """A wall with no rows is one that hasn't begun: begin takes one row at least."""

    def __init__(self):
        self.rows = 0
        self.columns = 0
        # Kept in the order in which they were put: ties are told in it.
        self.ties = []


def strip_count(wall):
    return wall.rows + wall.columns


def ties_without(wall, spot):
    return [other for other in wall.ties if other != spot]


def passages_by(wall, spots):
    return [passage(wall.rows, spot) for spot in spots]


def table_by(wall, spots):
    """The table as it would be if the ties were at these spots."""
    return reach_table(strip_count(wall), passages_by(wall, spots))


def table_of(wall):
    return table_by(wall, wall.ties)


def part_count(wall):
    return len(firsts(table_of(wall)))


def has_square(wall, row, column):
    return row < wall.rows and column < wall.columns


def has_spot(wall, spot):
    return has_square(wall, spot[0], spot[1]) and spot[2] < KINDS


def has_strip(wall, strip):
    return strip < strip_count(wall)


def all_squares(wall):
    """Every square row by row, as (row, column)."""
    squares = []
    for row in range(wall.rows):
        for column in range(wall.columns):
            squares.append((row, column))
    return squares


def all_spots(wall):
    """Every square row by row, in each kind 0 ahead of 1."""
    spots = []
    for row, column in all_squares(wall):
        for kind in range(KINDS):
            spots.append((row, column, kind))
    return spots


def other_kind(spot):
    return (spot[0], spot[1], 1 - spot[2])


def lean_count(wall, table):
    """In how many ways squares could lean by this table."""
    return len([spot for spot in all_spots(wall) if may_lean(table, wall.rows, spot)])


def is_spare(wall, spot):
    step = passage(wall.rows, spot)
    others = passages_by(wall, ties_without(wall, spot))
    return met_from(strip_count(wall), others, step[0])[step[1]]
