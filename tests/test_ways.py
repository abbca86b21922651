"""Every answer held against a second telling of it, by ways to turn (tests/ways.py)."""

import unittest

from tests.asking import HUGE, LOOK, ask, wall
from tests.ways import told_by_ways


def all_asked(rows, columns):
    strips = range(rows + columns)
    squares = [(row, column, kind) for row in range(rows) for column in range(columns) for kind in (0, 1)]
    asked = list(LOOK)
    for name in ("reach", "part"):
        asked += [(name, strip) for strip in strips]
    for name in ("leans", "lean"):
        asked += [(name,) + spot for spot in squares]
    return asked


class Dice:
    """Numbers that look thrown, and are the same each time."""

    def __init__(self, seed):
        self.now = seed

    def below(self, bound):
        self.now = (self.now * 6364136223846793005 + 1442695040888963407) % (1 << 64)
        return (self.now >> 33) % bound

    def one_of(self, choices):
        return choices[self.below(len(choices))]

    def number(self, bound):
        """Mostly one that's there, sometimes one that isn't."""
        if self.below(25) == 0:
            return self.one_of([bound, bound + 1, HUGE])
        return self.below(bound)

    def call(self, rows, columns):
        name = self.one_of(["tie"] * 8 + ["free"] * 3 + ["leans", "lean", "reach", "part"] * 2 + [one for one, in LOOK])
        if name in ("reach", "part"):
            return (name, self.number(rows + columns))
        if (name,) in LOOK:
            return (name,)
        return (name, self.number(rows), self.number(columns), self.number(2))

    def line(self, length):
        rows, columns = 1 + self.below(5), 1 + self.below(5)
        calls = [self.call(rows, columns), ("begin", rows, columns)]
        while len(calls) < length:
            if self.below(60) == 0:
                asked = (self.below(7), self.below(7))
                calls.append(("begin",) + asked)
                if 1 <= min(asked) and max(asked) <= 5:
                    rows, columns = asked
            calls.append(self.call(rows, columns))
        return calls


class AgainstWays(unittest.TestCase):
    def hold(self, calls):
        told, asked_for = ask(*calls), told_by_ways(calls)
        for place, call in enumerate(calls):
            if told[place] != asked_for[place]:
                self.fail(f"{call} told {told[place]} for {asked_for[place]}, behind {calls[:place]}")

    def test_all_walls_of_at_most_four_squares(self):
        for rows, columns in [(1, 1), (1, 2), (2, 1), (1, 3), (3, 1), (2, 2), (1, 4), (4, 1)]:
            squares = [(row, column, kind) for row in range(rows) for column in range(columns) for kind in (0, 1)]
            for chosen in range(1 << len(squares)):
                spots = [spot for place, spot in enumerate(squares) if chosen >> place & 1]
                self.hold(wall(rows, columns, spots) + all_asked(rows, columns))

    def test_lines_of_many_calls(self):
        for seed in range(60):
            self.hold(Dice(seed).line(120))

    def test_longest_lines(self):
        for seed in range(100, 105):
            self.hold(Dice(seed).line(400)[:400])

    def test_five_by_five_filled_and_emptied(self):
        dice = Dice(7)
        squares = [(row, column, kind) for row in range(5) for column in range(5) for kind in (0, 1)]
        calls = [("begin", 5, 5)]
        for name in ("tie", "free"):
            left = list(squares)
            while left:
                calls.append((name,) + left.pop(dice.below(len(left))))
                calls += LOOK[:3]
        self.hold(calls[:400])


if __name__ == "__main__":
    unittest.main()
