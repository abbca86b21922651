"""Point 2: firm, reach, part, parts, ends, leans, all, stiff; and point 3: lean, turn."""

import unittest

from tests.asking import HUGE, JOINED_RINGS, LOOK, RING, RING_WITH_ONE_TURNED, TWO_RINGS
from tests.asking import all_spots, all_squares, ask, ask_behind, ask_last, look_around, wall

BOTH = [(0, 0, 0), (0, 0, 1)]


class Firm(unittest.TestCase):
    def test_walls(self):
        for rows, columns, spots, told in [
            (1, 1, [], [0, 2]),
            (1, 1, BOTH[:1], [0, 2]),
            (1, 1, BOTH[1:], [0, 2]),
            (1, 1, BOTH, [1, 1]),
            (2, 2, RING, [1, 1]),
            (2, 2, RING_WITH_ONE_TURNED, [0, 4]),
            (2, 2, BOTH, [0, 3]),
            (4, 4, TWO_RINGS, [0, 2]),
            (4, 4, JOINED_RINGS, [0, 2]),
            (4, 4, JOINED_RINGS + [(2, 0, 0)], [1, 1]),
            (5, 5, [], [0, 10]),
        ]:
            with self.subTest(rows=rows, columns=columns, spots=spots):
                self.assertEqual(ask_last(*wall(rows, columns, spots), ("firm",)), told)

    def test_five_by_five_with_one_ring_through_all(self):
        stairs = [(row, row, 0) for row in range(5)] + [((column + 1) % 5, column, 1) for column in range(5)]
        self.assertEqual(ask_last(*wall(5, 5, stairs), ("firm",)), [1, 1])
        for missing in range(10):
            with self.subTest(missing=missing):
                left = stairs[:missing] + stairs[missing + 1:]
                self.assertEqual(ask_last(*wall(5, 5, left), ("firm",)), [0, 10])


class Reach(unittest.TestCase):
    def reaches(self, rows, columns, spots):
        asked = [("reach", strip) for strip in range(rows + columns)]
        return ask(*wall(rows, columns, spots), *asked)[1 + len(spots):]

    def test_no_ties(self):
        self.assertEqual(self.reaches(2, 1, []), [[1, 0], [1, 1], [1, 2]])

    def test_each_kind(self):
        self.assertEqual(self.reaches(1, 1, [(0, 0, 0)]), [[2, 0, 1], [1, 1]])
        self.assertEqual(self.reaches(1, 1, [(0, 0, 1)]), [[1, 0], [2, 0, 1]])

    def test_row_and_column_are_not_taken_for_one_another(self):
        self.assertEqual(self.reaches(2, 3, [(1, 2, 0)]), [[1, 0], [2, 1, 4], [1, 2], [1, 3], [1, 4]])
        self.assertEqual(self.reaches(3, 2, [(2, 1, 1)]), [[1, 0], [1, 1], [1, 2], [1, 3], [2, 2, 4]])

    def test_on_and_on(self):
        self.assertEqual(
            self.reaches(2, 2, RING_WITH_ONE_TURNED), [[4, 0, 1, 2, 3], [2, 1, 3], [3, 1, 2, 3], [1, 3]]
        )

    def test_ties_put_from_the_last_to_the_first(self):
        self.assertEqual(self.reaches(2, 2, RING_WITH_ONE_TURNED[::-1])[0], [4, 0, 1, 2, 3])

    def test_joined_rings(self):
        told = self.reaches(4, 4, JOINED_RINGS)
        for strip in (0, 1, 4, 5):
            self.assertEqual(told[strip], [8, 0, 1, 2, 3, 4, 5, 6, 7])
        for strip in (2, 3, 6, 7):
            self.assertEqual(told[strip], [4, 2, 3, 6, 7])

    def test_none_such(self):
        told = ask(("begin", 2, 3), ("reach", 4), ("reach", 5), ("reach", HUGE))
        self.assertEqual(told, [[0], [1, 4], [-2], [-2]])
        self.assertEqual(ask(("begin", 5, 5), ("reach", 9), ("reach", 10)), [[0], [1, 9], [-2]])


class Part(unittest.TestCase):
    def test_one_square(self):
        self.assertEqual(ask(("begin", 1, 1), ("part", 0), ("part", 1)), [[0], [1, 0], [1, 1]])
        self.assertEqual(ask(*wall(1, 1, BOTH[:1]), ("part", 0), ("part", 1))[2:], [[1, 0], [1, 1]])
        self.assertEqual(ask(*wall(1, 1, BOTH), ("part", 0), ("part", 1))[3:], [[2, 0, 1], [2, 0, 1]])

    def test_rings(self):
        for strip in range(4):
            self.assertEqual(ask_last(*wall(2, 2, RING), ("part", strip)), [4, 0, 1, 2, 3])
            self.assertEqual(ask_last(*wall(2, 2, RING_WITH_ONE_TURNED), ("part", strip)), [1, strip])
        for strip in (0, 1, 4, 5):
            self.assertEqual(ask_last(*wall(4, 4, JOINED_RINGS), ("part", strip)), [4, 0, 1, 4, 5])
        for strip in (2, 3, 6, 7):
            self.assertEqual(ask_last(*wall(4, 4, JOINED_RINGS), ("part", strip)), [4, 2, 3, 6, 7])

    def test_none_such(self):
        told = ask(("begin", 3, 1), ("part", 3), ("part", 4), ("part", HUGE))
        self.assertEqual(told, [[0], [1, 3], [-2], [-2]])


class Parts(unittest.TestCase):
    def test_walls(self):
        for rows, columns, spots, told in [
            (1, 1, [], [2, 0, 1]),
            (1, 1, BOTH, [2, 0, 0]),
            (2, 2, RING, [4, 0, 0, 0, 0]),
            (2, 2, RING_WITH_ONE_TURNED, [4, 0, 1, 2, 3]),
            (4, 4, JOINED_RINGS, [8, 0, 0, 2, 2, 0, 0, 2, 2]),
            (3, 2, [(2, 1, 1), (2, 1, 0)], [5, 0, 1, 2, 3, 2]),
        ]:
            with self.subTest(rows=rows, columns=columns, spots=spots):
                self.assertEqual(ask_last(*wall(rows, columns, spots), ("parts",)), told)


class Ends(unittest.TestCase):
    def test_walls(self):
        for rows, columns, spots, told in [
            # Each strip is a part that's a start and an end.
            (1, 1, [], [2, 2, 0, 1, 0, 1]),
            (1, 1, [(0, 0, 0)], [1, 1, 1, 0]),
            (1, 1, [(0, 0, 1)], [1, 1, 0, 1]),
            (1, 1, BOTH, [1, 1, 0, 0]),
            (2, 2, RING, [1, 1, 0, 0]),
            (2, 2, RING_WITH_ONE_TURNED, [1, 1, 3, 0]),
            (4, 4, TWO_RINGS, [2, 2, 0, 2, 0, 2]),
            (4, 4, JOINED_RINGS, [1, 1, 2, 0]),
            # Row 2 stays by itself: a start that's an end beside others that aren't both.
            (3, 2, [(0, 0, 0), (1, 0, 0), (1, 1, 0)], [3, 3, 2, 3, 4, 0, 1, 2]),
            # More ends than starts, and more starts than ends.
            (1, 3, [(0, 0, 0), (0, 1, 0), (0, 2, 0)], [3, 1, 1, 2, 3, 0]),
            (1, 3, [(0, 0, 1), (0, 1, 1), (0, 2, 1)], [1, 3, 0, 1, 2, 3]),
        ]:
            with self.subTest(rows=rows, columns=columns, spots=spots):
                self.assertEqual(ask_last(*wall(rows, columns, spots), ("ends",)), told)

    def test_a_part_in_the_middle_is_neither(self):
        told = ask_last(*wall(3, 3, [(0, 1, 0), (1, 1, 1), (1, 1, 0), (2, 1, 1)]), ("ends",))
        self.assertEqual(told, [3, 3, 2, 3, 5, 0, 3, 5])


class Leans(unittest.TestCase):
    def test_one_square(self):
        asked = [("leans", 0, 0, 0), ("leans", 0, 0, 1)]
        self.assertEqual(ask(("begin", 1, 1), *asked)[1:], [[1], [1]])
        self.assertEqual(ask(*wall(1, 1, BOTH[:1]), *asked)[2:], [[0], [1]])
        self.assertEqual(ask(*wall(1, 1, BOTH[1:]), *asked)[2:], [[1], [0]])
        self.assertEqual(ask(*wall(1, 1, BOTH), *asked)[3:], [[0], [0]])

    def test_a_square_without_ties_held_by_others(self):
        # Row 0 comes to column 1 by column 0 and row 1; not back.
        spots = RING_WITH_ONE_TURNED[:3]
        self.assertEqual(ask(*wall(2, 2, spots), ("leans", 0, 1, 0), ("leans", 0, 1, 1))[4:], [[0], [1]])

    def test_none_such(self):
        for spot in [(2, 0, 0), (0, 3, 0), (0, 0, 2), (HUGE, 0, 0), (0, HUGE, 0), (0, 0, HUGE)]:
            with self.subTest(spot=spot):
                self.assertEqual(ask(("begin", 2, 3), ("leans",) + spot), [[0], [-2]])


class AllLeans(unittest.TestCase):
    def test_walls(self):
        for rows, columns, spots, told in [
            (1, 1, [], [2, 1, 1]),
            (1, 1, BOTH[:1], [1, 0, 1]),
            (1, 1, BOTH[1:], [1, 1, 0]),
            (1, 1, BOTH, [0, 0, 0]),
            (2, 2, RING, [0] * 9),
            (2, 2, RING_WITH_ONE_TURNED, [4, 0, 1, 0, 1, 1, 0, 0, 1]),
            (2, 3, [(1, 2, 0)], [11, 1, 1, 1, 1, 1, 1, 1, 1, 1, 1, 0, 1]),
            (2, 3, [(0, 1, 1)], [11, 1, 1, 1, 0, 1, 1, 1, 1, 1, 1, 1, 1]),
            (5, 5, [], [50] + [1] * 50),
        ]:
            with self.subTest(rows=rows, columns=columns, spots=spots):
                self.assertEqual(ask_last(*wall(rows, columns, spots), ("all_leans",)), told)

    def test_joined_rings(self):
        told = ask_last(*wall(4, 4, JOINED_RINGS), ("all_leans",))
        still = [0, 0]
        # From the first ring one comes to the second, not back.
        first_row, later_row = still * 2 + [0, 1] * 2, [1, 0] * 2 + still * 2
        self.assertEqual(told, [8] + first_row * 2 + later_row * 2)


class Lean(unittest.TestCase):
    def test_no_ties(self):
        told = ask(("begin", 2, 3), ("lean", 1, 2, 0), ("lean", 1, 2, 1), ("lean", 0, 0, 0), ("lean", 0, 0, 1))
        self.assertEqual(told[1:], [[5, 0, 1, 0, 0, 0], [5, 0, 0, 0, 0, 1], [5, 1, 0, 0, 0, 0], [5, 0, 0, 1, 0, 0]])

    def test_one_square(self):
        asked = [("lean", 0, 0, 0), ("lean", 0, 0, 1)]
        self.assertEqual(ask(("begin", 1, 1), *asked)[1:], [[2, 1, 0], [2, 0, 1]])
        self.assertEqual(ask(*wall(1, 1, BOTH[:1]), *asked)[2:], [[-33], [2, 0, 1]])
        self.assertEqual(ask(*wall(1, 1, BOTH[1:]), *asked)[2:], [[2, 1, 0], [-33]])
        self.assertEqual(ask(*wall(1, 1, BOTH), *asked)[3:], [[-33], [-33]])

    def test_rings(self):
        for spot in RING:
            for kind in (0, 1):
                self.assertEqual(ask_last(*wall(2, 2, RING), ("lean", spot[0], spot[1], kind)), [-33])
        turned = wall(2, 2, RING_WITH_ONE_TURNED)
        self.assertEqual(ask_last(*turned, ("lean", 0, 0, 1)), [4, 0, 1, 1, 1])
        self.assertEqual(ask_last(*turned, ("lean", 0, 1, 1)), [4, 0, 0, 0, 1])
        self.assertEqual(ask_last(*turned, ("lean", 1, 0, 0)), [4, 0, 1, 0, 1])
        joined = wall(4, 4, JOINED_RINGS)
        self.assertEqual(ask_last(*joined, ("lean", 0, 3, 1)), [8, 0, 0, 1, 1, 0, 0, 1, 1])
        self.assertEqual(ask_last(*joined, ("lean", 2, 1, 0)), [8, 0, 0, 1, 1, 0, 0, 1, 1])
        self.assertEqual(ask_last(*joined, ("lean", 0, 3, 0)), [-33])

    def test_none_such_comes_ahead_of_not_so(self):
        for spot in [(1, 0, 0), (0, 1, 0), (0, 0, 2), (HUGE, 0, 0), (0, HUGE, 0), (0, 0, HUGE)]:
            with self.subTest(spot=spot):
                self.assertEqual(ask_last(*wall(1, 1, BOTH), ("lean",) + spot), [-2])

    def test_it_keeps_what_is_tied_and_does_lean(self):
        spots = [(0, 0, 0), (1, 0, 1), (1, 2, 0), (2, 2, 1), (3, 1, 1), (3, 4, 0), (4, 3, 0), (0, 3, 1)]
        for row in range(5):
            for column in range(5):
                for kind in (0, 1):
                    asked = [("leans", row, column, kind), ("lean", row, column, kind)]
                    leans, told = ask(*wall(5, 5, spots), *asked)[-2:]
                    self.assertEqual(told == [-33], leans == [0])
                    if leans == [1]:
                        self.check_way(told[1:], spots, row, column, kind)

    def check_way(self, way, spots, row, column, kind):
        self.assertEqual(len(way), 10)
        less_row = way[row] < way[5 + column]
        self.assertEqual((way[row] == way[5 + column], less_row), (False, kind == 1))
        for tied_row, tied_column, tied_kind in spots:
            turns = way[tied_row], way[5 + tied_column]
            self.assertLessEqual(turns[tied_kind], turns[1 - tied_kind])


class Turn(unittest.TestCase):
    def turned(self, made, *ways):
        return ask_behind(made, *[("turn", list(way)) for way in ways])

    def test_one_square(self):
        ways = [(0, 0), (0, 1), (1, 0), (1, 1)]
        self.assertEqual(self.turned(wall(1, 1, []), *ways), [[1, 0], [1, 1], [1, 1], [1, 0]])
        self.assertEqual(self.turned(wall(1, 1, BOTH[:1]), *ways), [[1, 0], [1, 1], [0, 1], [1, 0]])
        self.assertEqual(self.turned(wall(1, 1, BOTH[1:]), *ways), [[1, 0], [0, 1], [1, 1], [1, 0]])
        self.assertEqual(self.turned(wall(1, 1, BOTH), *ways), [[1, 0], [0, 1], [0, 1], [1, 0]])

    def test_all_alike(self):
        for rows, columns, spots in [(1, 1, BOTH), (2, 2, RING), (4, 4, JOINED_RINGS), (5, 5, []), (3, 5, [(2, 4, 1)])]:
            for much in (0, 1, 7, HUGE):
                with self.subTest(rows=rows, columns=columns, much=much):
                    way = [much] * (rows + columns)
                    self.assertEqual(self.turned(wall(rows, columns, spots), way), [[1, 0]])

    def test_how_much_further_does_not_matter(self):
        one = wall(1, 1, BOTH[:1])
        self.assertEqual(self.turned(one, (5, 6), (0, HUGE), (HUGE - 1, HUGE)), [[1, 1]] * 3)
        self.assertEqual(self.turned(one, (6, 5), (HUGE, 0), (HUGE, HUGE - 1)), [[0, 1]] * 3)

    def test_row_and_column_are_not_taken_for_one_another(self):
        # Row 1 no further than column 2; of 2 rows and 3 columns.
        made = wall(2, 3, [(1, 2, 0)])
        self.assertEqual(self.turned(made, (0, 1, 0, 0, 0), (0, 1, 0, 0, 1)), [[0, 3], [1, 3]])
        # Column 0 no further than row 2; of 3 rows and 2 columns.
        made = wall(3, 2, [(2, 0, 1)])
        self.assertEqual(self.turned(made, (0, 0, 0, 1, 0), (0, 0, 1, 1, 0)), [[0, 3], [1, 3]])

    def test_squares_that_do_not_turn_by_as_much(self):
        made = wall(2, 3, [])
        for way, uneven in [((1, 2, 1, 2, 3), 4), ((1, 1, 1, 1, 2), 2), ((1, 2, 3, 4, 5), 6), ((9, 8, 9, 9, 9), 3)]:
            with self.subTest(way=way):
                self.assertEqual(self.turned(made, way), [[1, uneven]])
        self.assertEqual(self.turned(wall(5, 5, []), (0,) * 5 + (1,) * 5), [[1, 25]])

    def test_one_tie_that_is_not_kept_is_enough(self):
        for spot in RING:
            held = spot[0] if spot[2] == 0 else 2 + spot[1]
            # Each strip of a ring is held by one tie alone: the others are kept.
            way = [0] * 4
            way[held] = 1
            others = [tie for tie in RING if tie != spot]
            for spots in ([spot] + others, others + [spot]):
                with self.subTest(spots=spots):
                    self.assertEqual(self.turned(wall(2, 2, spots), way), [[0, 2]])
                    self.assertEqual(self.turned(wall(2, 2, others), way), [[1, 2]])

    def test_a_way_told_by_lean(self):
        high_and_narrow = [(4, 2, 0), (0, 2, 1)]
        for rows, columns, spots in [(2, 2, RING_WITH_ONE_TURNED), (4, 4, JOINED_RINGS), (5, 3, high_and_narrow)]:
            made = wall(rows, columns, spots)
            for spot in all_spots(rows, columns):
                told = ask_last(*made, ("lean",) + spot)
                if told != [-33]:
                    keeps, uneven = self.turned(made, told[1:])[0]
                    self.assertEqual(keeps, 1)
                    self.assertGreater(uneven, 0)

    def test_not_one_number_for_each_strip(self):
        for rows, columns in [(1, 1), (2, 3), (3, 2), (5, 5), (1, 5)]:
            for length in range(13):
                with self.subTest(rows=rows, columns=columns, length=length):
                    told = self.turned(wall(rows, columns, BOTH), [0] * length)
                    self.assertEqual(told, [[1, 0]] if length == rows + columns else [[-22]])

    def test_the_next_call_stands_behind_it(self):
        for length in range(13):
            for much in (0, 1, 3, HUGE):
                with self.subTest(length=length, much=much):
                    told = ask(("begin", 2, 3), ("turn", [much] * length), ("state",), ("turn", []), ("firm",))
                    self.assertEqual(told[1], [1, 0] if length == 5 else [-22])
                    self.assertEqual(told[2:], [[2, 3, 0, 5], [-22], [0, 5]])

    def test_the_next_call_stands_behind_it_where_there_is_no_wall_yet(self):
        for length in range(13):
            with self.subTest(length=length):
                told = ask(("turn", [0] * length), ("begin", 1, 1), ("turn", [0, 1]), ("firm",))
                self.assertEqual(told, [[-11], [0], [1, 1], [0, 2]])


class Stiff(unittest.TestCase):
    def test_one_square(self):
        for spots, told in [([], [0, 0]), (BOTH[:1], [0, 0]), (BOTH[1:], [0, 0]), (BOTH, [1, 1]), (BOTH[::-1], [1, 1])]:
            with self.subTest(spots=spots):
                self.assertEqual(ask_last(*wall(1, 1, spots), ("stiff", 0, 0)), told)

    def test_held_by_others(self):
        for square in all_squares(2, 2):
            with self.subTest(square=square):
                self.assertEqual(ask_last(*wall(2, 2, RING), ("stiff",) + square), [1, 0])
                self.assertEqual(ask_last(*wall(2, 2, RING_WITH_ONE_TURNED), ("stiff",) + square), [0, 0])
        # Three sides of a ring in both kinds hold the fourth square, which has no tie.
        bars = [(row, column, kind) for row, column in [(0, 0), (1, 0), (1, 1)] for kind in (0, 1)]
        told = ask_behind(wall(2, 2, bars), *[("stiff",) + square for square in all_squares(2, 2)])
        self.assertEqual(told, [[1, 1], [1, 0], [1, 1], [1, 1]])

    def test_joined_rings(self):
        told = ask_behind(wall(4, 4, JOINED_RINGS), *[("stiff",) + square for square in all_squares(4, 4)])
        self.assertEqual(told, [[1, 0], [1, 0], [0, 0], [0, 0]] * 2 + [[0, 0], [0, 0], [1, 0], [1, 0]] * 2)

    def test_row_and_column_are_not_taken_for_one_another(self):
        told = ask_behind(wall(2, 3, [(1, 0, 0), (1, 0, 1)]), *[("stiff",) + square for square in all_squares(2, 3)])
        self.assertEqual(told, [[0, 0], [0, 0], [0, 0], [1, 1], [0, 0], [0, 0]])

    def test_none_such(self):
        asked = [("stiff", 2, 0), ("stiff", 0, 3), ("stiff", 2, 3), ("stiff", HUGE, 0), ("stiff", 0, HUGE)]
        self.assertEqual(ask_behind(wall(2, 3, BOTH), *asked, ("stiff", 1, 2)), [[-2]] * 5 + [[0, 0]])


class Asking(unittest.TestCase):
    def test_changes_nothing(self):
        others = [("reach", 2), ("part", 1), ("leans", 0, 1, 1), ("lean", 0, 1, 1), ("stiff", 0, 0), ("turn", [1] * 4)]
        for call in LOOK + others:
            with self.subTest(call=call):
                told, before, after = look_around(wall(2, 2, RING_WITH_ONE_TURNED), call)
                self.assertGreaterEqual(told[0], 0)
                self.assertEqual(after, before)

    def test_refused_changes_nothing(self):
        for call, refusal in [
            (("reach", 4), -2),
            (("part", HUGE), -2),
            (("leans", 2, 0, 0), -2),
            (("lean", 0, 0, 2), -2),
            (("lean", 0, 1, 0), -33),
            (("stiff", 2, 0), -2),
            (("stiff", 0, HUGE), -2),
            (("turn", []), -22),
            (("turn", [0] * 3), -22),
            (("turn", [HUGE] * 12), -22),
        ]:
            with self.subTest(call=call):
                told, before, after = look_around(wall(2, 2, RING_WITH_ONE_TURNED), call)
                self.assertEqual(told, [refusal])
                self.assertEqual(after, before)


if __name__ == "__main__":
    unittest.main()
