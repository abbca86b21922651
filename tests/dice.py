"""Lines of calls that look thrown, for the tests."""

from tests.asking import HUGE, LOOK
from tests.ways import ON_A_SPOT

ASKED = ["reach", "part", "stiff", "turn"] + list(ON_A_SPOT) + [name for name, in LOOK]


class Dice:
    """Numbers that look thrown, and are the same each time."""

    def __init__(self, seed):
        self.now = seed

    def below(self, bound):
        self.now = (self.now * 6364136223846793005 + 1442695040888963407) % (1 << 64)
        return (self.now >> 33) % bound

    def one_of(self, choices):
        return choices[self.below(len(choices))]

    def number(self, bound):
        """Mostly one that's there, sometimes one that isn't."""
        if self.below(25) == 0:
            return self.one_of([bound, bound + 1, HUGE])
        return self.below(bound)

    def way(self, strips):
        length = strips if self.below(6) else self.below(13)
        return [self.one_of([0, 1, 1, 1, 2, HUGE]) for place in range(length)]

    def call(self, rows, columns):
        name = self.one_of(["tie"] * 14 + ["free"] * 3 + ["flip"] * 2 + ASKED)
        if name in ("reach", "part"):
            return (name, self.number(rows + columns))
        if (name,) in LOOK:
            return (name,)
        if name == "stiff":
            return (name, self.number(rows), self.number(columns))
        if name == "turn":
            return (name, self.way(rows + columns))
        return (name, self.number(rows), self.number(columns), self.number(2))

    def line(self, length, most=5):
        rows, columns = 1 + self.below(most), 1 + self.below(most)
        calls = [self.call(rows, columns), ("begin", rows, columns)]
        while len(calls) < length:
            if self.below(60) == 0:
                asked = (self.below(most + 2), self.below(most + 2))
                calls.append(("begin",) + asked)
                if 1 <= min(asked) and max(asked) <= 5:
                    rows, columns = asked
            calls.append(self.call(rows, columns))
        return calls
