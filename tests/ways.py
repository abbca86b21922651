"""A second telling of every answer, for the tests, by another road than the program's.

It never follows ties from strip to strip. It looks at every way to turn by 0 or 1 that
keeps what's tied: one comes from a strip to another just if each such way that turns the
one turns the other, a square may lean just if in one such way it does, and it's firm just
if each such way turns all strips alike.
"""

import itertools

ON_A_SPOT = ("tie", "free", "leans", "lean", "spare", "would", "falls", "flip")


class Ways:
    def __init__(self):
        self.rows = 0
        self.columns = 0
        self.ties = []
        self.kept = []

    def with_ties(self, ties):
        """Another of the same size."""
        other = Ways()
        other.rows, other.columns, other.ties = self.rows, self.columns, ties
        other.look_again()
        return other

    def without(self, spot):
        return self.with_ties([tie for tie in self.ties if tie != spot])

    def look_again(self):
        pairs = [self.held(spot) for spot in self.ties]
        self.kept = [
            way
            for way in range(1 << (self.rows + self.columns))
            if all(way >> less & 1 <= way >> more & 1 for less, more in pairs)
        ]

    def held(self, spot):
        """The strip that a tie lets turn no further, then the one than which."""
        row, column, kind = spot
        if kind == 0:
            return row, self.rows + column
        return self.rows + column, row

    def strips(self):
        return range(self.rows + self.columns)

    def squares(self):
        return list(itertools.product(range(self.rows), range(self.columns)))

    def spots(self):
        return list(itertools.product(range(self.rows), range(self.columns), (0, 1)))

    def comes(self, here, there):
        return all(way >> there & 1 for way in self.kept if way >> here & 1)

    def hangs(self, one, other):
        return self.comes(one, other) and self.comes(other, one)

    def part(self, strip):
        return [other for other in self.strips() if self.hangs(strip, other)]

    def firsts(self):
        return sorted({min(self.part(strip)) for strip in self.strips()})

    def ends(self):
        firsts = self.firsts()
        return [one for one in firsts if not any(self.comes(one, two) for two in firsts if one != two)]

    def starts(self):
        firsts = self.firsts()
        return [one for one in firsts if not any(self.comes(two, one) for two in firsts if one != two)]

    def leans(self, spot):
        more, less = self.held(spot)
        return int(any(way >> more & 1 > way >> less & 1 for way in self.kept))

    def lean_count(self):
        return sum(self.leans(spot) for spot in self.spots())

    def spare(self, spot):
        return 1 - self.without(spot).leans(spot)

    def answer(self, call):
        name, given = call[0], call[1:]
        if name == "begin":
            return self.answer_begin(*given)
        if self.rows == 0:
            return [-11]
        if name in ON_A_SPOT:
            if given[0] >= self.rows or given[1] >= self.columns or given[2] > 1:
                return [-2]
            return self.answer_spot(name, given)
        if name in ("reach", "part"):
            if given[0] >= len(self.strips()):
                return [-2]
            return self.answer_strip(name, given[0])
        if name == "stiff":
            return self.answer_stiff(*given)
        if name == "turn":
            return self.answer_turn(*given)
        return self.answer_whole(name)

    def answer_begin(self, rows, columns):
        if rows not in (1, 2, 3, 4, 5) or columns not in (1, 2, 3, 4, 5):
            return [-22]
        self.rows, self.columns, self.ties = rows, columns, []
        self.look_again()
        return [0]

    def answer_spot(self, name, spot):
        if name == "leans":
            return [self.leans(spot)]
        if name == "lean":
            if not self.leans(spot):
                return [-33]
            further = self.held(spot)[0]
            return [len(self.strips())] + [int(self.comes(further, strip)) for strip in self.strips()]
        if name in ("tie", "would"):
            if spot in self.ties:
                return [-17]
        elif spot not in self.ties:
            return [-6]
        if name == "spare":
            return [self.spare(spot)]
        if name == "would":
            other = self.with_ties(self.ties + [spot])
            return [len(other.firsts()), self.lean_count() - other.lean_count()]
        if name == "falls":
            other = self.without(spot)
            return [len(other.firsts()), other.lean_count() - self.lean_count()]
        return self.answer_change(name, spot)

    def answer_change(self, name, spot):
        if name == "tie":
            self.ties = self.ties + [spot]
        elif name == "free":
            self.ties = [tie for tie in self.ties if tie != spot]
        else:
            turned = spot[:2] + (1 - spot[2],)
            if turned in self.ties:
                return [-17]
            self.ties = [turned if tie == spot else tie for tie in self.ties]
        self.look_again()
        return [len(self.firsts())]

    def answer_strip(self, name, strip):
        if name == "part":
            told = self.part(strip)
        else:
            told = [other for other in self.strips() if self.comes(strip, other)]
        return [len(told)] + told

    def answer_stiff(self, row, column):
        if row >= self.rows or column >= self.columns:
            return [-2]
        both = (row, column, 0) in self.ties and (row, column, 1) in self.ties
        # Hanging together is leaning neither way.
        return [int(not self.leans((row, column, 0)) and not self.leans((row, column, 1))), int(both)]

    def answer_turn(self, way):
        if len(way) != len(self.strips()):
            return [-22]
        keeps = all(way[less] <= way[more] for less, more in map(self.held, self.ties))
        return [int(keeps), sum(way[row] != way[self.rows + column] for row, column in self.squares())]

    def answer_put(self):
        if len(self.squares()) > 9:
            return [-28]
        told = first_to_put(self)
        if told is None:
            return [-33]
        return [len(told)] + [number for spot in told for number in spot]

    def answer_whole(self, name):
        firsts = self.firsts()
        if name == "firm":
            return [int(len(firsts) == 1), len(firsts)]
        if name == "parts":
            return [len(self.strips())] + [min(self.part(strip)) for strip in self.strips()]
        if name == "ends":
            ends, starts = self.ends(), self.starts()
            return [len(ends), len(starts)] + ends + starts
        if name == "put":
            return self.answer_put()
        if name == "state":
            most = max(len(self.ends()), len(self.starts()))
            return [self.rows, self.columns, len(self.ties), 0 if len(firsts) == 1 else most]
        if name in ("ties", "spares"):
            told = [tie for tie in self.ties if name == "ties" or self.spare(tie)]
            return [len(told)] + [number for spot in told for number in spot]
        told = [self.leans(spot) for spot in self.spots()]
        return [sum(told)] + told


def first_to_put(ways):
    """Tries every set of at most 4 spots without a tie; combinations come in the order asked for."""
    missing = [spot for spot in ways.spots() if spot not in ways.ties]
    # As bits of one number: which of the ways still kept each tie would keep, too.
    keeps = {}
    for spot in missing:
        less, more = ways.held(spot)
        keeps[spot] = sum(1 << way for way in ways.kept if way >> less & 1 <= way >> more & 1)
    kept = sum(1 << way for way in ways.kept)
    alike = 1 | 1 << ((1 << len(ways.strips())) - 1)
    for many in range(5):
        for chosen in itertools.combinations(missing, many):
            left = kept
            for spot in chosen:
                left &= keeps[spot]
            if left == alike:
                return chosen
    return None


def told_by_ways(calls):
    ways = Ways()
    return [ways.answer(call) for call in calls]
