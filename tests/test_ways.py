"""Every answer held against a second telling of it, by ways to turn (tests/ways.py)."""

import itertools
import unittest

from tests.asking import LOOK, all_spots, all_squares, ask, every_wall, wall
from tests.dice import Dice
from tests.ways import told_by_ways


def all_asked(rows, columns):
    """Every question there is, and on the way each tie turned and turned back."""
    asked = list(LOOK)
    for name in ("reach", "part"):
        asked += [(name, strip) for strip in range(rows + columns)]
    for name in ("leans", "lean", "spare", "would", "falls"):
        asked += [(name,) + spot for spot in all_spots(rows, columns)]
    asked += [("stiff",) + square for square in all_squares(rows, columns)]
    for row, column, kind in all_spots(rows, columns):
        asked += [("flip", row, column, kind), ("ties",), ("flip", row, column, 1 - kind)]
    for way in itertools.product((0, 1), repeat=rows + columns):
        asked.append(("turn", list(way)))
    return asked + LOOK


class AgainstWays(unittest.TestCase):
    def hold(self, calls):
        told, asked_for = ask(*calls), told_by_ways(calls)
        for place, call in enumerate(calls):
            if told[place] != asked_for[place]:
                self.fail(f"{call} told {told[place]} for {asked_for[place]}, behind {calls[:place]}")

    def test_all_walls_of_at_most_three_squares(self):
        for rows, columns in [(1, 1), (1, 2), (2, 1), (1, 3), (3, 1)]:
            for ties in every_wall(rows, columns):
                self.hold(wall(rows, columns, ties) + all_asked(rows, columns))

    def test_all_walls_of_four_squares(self):
        for rows, columns in [(2, 2), (1, 4), (4, 1)]:
            for ties in every_wall(rows, columns):
                self.hold(wall(rows, columns, ties) + LOOK)

    def test_lines_of_many_calls(self):
        for seed in range(60):
            self.hold(Dice(seed).line(120))

    def test_longest_lines(self):
        for seed in range(100, 105):
            self.hold(Dice(seed).line(400)[:400])

    def test_lines_on_walls_of_at_most_nine_squares(self):
        for seed in range(200, 230):
            self.hold(Dice(seed).line(120, 3))

    def test_five_by_five_filled_and_emptied(self):
        dice = Dice(7)
        squares = all_spots(5, 5)
        calls = [("begin", 5, 5)]
        for name in ("tie", "free"):
            left = list(squares)
            while left:
                calls.append((name,) + left.pop(dice.below(len(left))))
                calls += LOOK[:3]
        self.hold(calls[:400])


if __name__ == "__main__":
    unittest.main()
