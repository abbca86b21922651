"""A second telling of every answer, for the tests, by another road than the program's.

It never follows ties from strip to strip. It looks at every way to turn by 0 or 1 that
keeps what's tied: one comes from a strip to another just if each such way that turns the
one turns the other, and a square may lean just if in one such way it does.
"""


class Ways:
    def __init__(self):
        self.rows = 0
        self.columns = 0
        self.ties = set()
        self.kept = []

    def look_again(self):
        pairs = [self.held(spot) for spot in self.ties]
        self.kept = [
            way
            for way in range(1 << (self.rows + self.columns))
            if all(way >> less & 1 <= way >> more & 1 for less, more in pairs)
        ]

    def held(self, spot):
        """The strip that a tie lets turn no further, then the one than which."""
        row, column, kind = spot
        if kind == 0:
            return row, self.rows + column
        return self.rows + column, row

    def strips(self):
        return range(self.rows + self.columns)

    def comes(self, here, there):
        return all(way >> there & 1 for way in self.kept if way >> here & 1)

    def hangs(self, one, other):
        return self.comes(one, other) and self.comes(other, one)

    def part(self, strip):
        return [other for other in self.strips() if self.hangs(strip, other)]

    def firsts(self):
        return sorted({min(self.part(strip)) for strip in self.strips()})

    def leans(self, spot):
        more, less = self.held(spot)
        return int(any(way >> more & 1 > way >> less & 1 for way in self.kept))

    def answer(self, call):
        name, given = call[0], call[1:]
        if name == "begin":
            return self.answer_begin(*given)
        if self.rows == 0:
            return [-11]
        if name in ("tie", "free", "leans", "lean"):
            if given[0] >= self.rows or given[1] >= self.columns or given[2] > 1:
                return [-2]
            return self.answer_spot(name, given)
        if name in ("reach", "part"):
            if given[0] >= len(self.strips()):
                return [-2]
            return self.answer_strip(name, given[0])
        return self.answer_whole(name)

    def answer_begin(self, rows, columns):
        if rows not in (1, 2, 3, 4, 5) or columns not in (1, 2, 3, 4, 5):
            return [-22]
        self.rows, self.columns, self.ties = rows, columns, set()
        self.look_again()
        return [0]

    def answer_spot(self, name, spot):
        if name == "leans":
            return [self.leans(spot)]
        if name == "lean":
            if not self.leans(spot):
                return [-33]
            further = self.held(spot)[0]
            return [len(self.strips())] + [int(self.comes(further, strip)) for strip in self.strips()]
        if name == "tie" and spot in self.ties:
            return [-17]
        if name == "free" and spot not in self.ties:
            return [-6]
        self.ties = self.ties ^ {spot}
        self.look_again()
        return [len(self.firsts())]

    def answer_strip(self, name, strip):
        if name == "part":
            told = self.part(strip)
        else:
            told = [other for other in self.strips() if self.comes(strip, other)]
        return [len(told)] + told

    def answer_whole(self, name):
        firsts = self.firsts()
        if name == "firm":
            return [int(len(firsts) == 1), len(firsts)]
        if name == "parts":
            return [len(self.strips())] + [min(self.part(strip)) for strip in self.strips()]
        if name == "ends":
            ends = [one for one in firsts if not any(self.comes(one, two) for two in firsts if one != two)]
            starts = [one for one in firsts if not any(self.comes(two, one) for two in firsts if one != two)]
            return [len(ends), len(starts)] + ends + starts
        told = [
            self.leans((row, column, kind))
            for row in range(self.rows)
            for column in range(self.columns)
            for kind in (0, 1)
        ]
        return [sum(told)] + told


def told_by_ways(calls):
    ways = Ways()
    return [ways.answer(call) for call in calls]
