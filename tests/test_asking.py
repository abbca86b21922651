"""Point 2: firm, reach, part, parts, ends, leans, all; and point 3: lean."""

import unittest

from tests.asking import HUGE, JOINED_RINGS, LOOK, RING, RING_WITH_ONE_TURNED, TWO_RINGS, ask, ask_last, wall

BOTH = [(0, 0, 0), (0, 0, 1)]


class Firm(unittest.TestCase):
    def test_walls(self):
        for rows, columns, spots, told in [
            (1, 1, [], [0, 2]),
            (1, 1, BOTH[:1], [0, 2]),
            (1, 1, BOTH[1:], [0, 2]),
            (1, 1, BOTH, [1, 1]),
            (2, 2, RING, [1, 1]),
            (2, 2, RING_WITH_ONE_TURNED, [0, 4]),
            (2, 2, BOTH, [0, 3]),
            (4, 4, TWO_RINGS, [0, 2]),
            (4, 4, JOINED_RINGS, [0, 2]),
            (4, 4, JOINED_RINGS + [(2, 0, 0)], [1, 1]),
            (5, 5, [], [0, 10]),
        ]:
            with self.subTest(rows=rows, columns=columns, spots=spots):
                self.assertEqual(ask_last(*wall(rows, columns, spots), ("firm",)), told)

    def test_five_by_five_with_one_ring_through_all(self):
        stairs = [(row, row, 0) for row in range(5)] + [((column + 1) % 5, column, 1) for column in range(5)]
        self.assertEqual(ask_last(*wall(5, 5, stairs), ("firm",)), [1, 1])
        for missing in range(10):
            with self.subTest(missing=missing):
                left = stairs[:missing] + stairs[missing + 1:]
                self.assertEqual(ask_last(*wall(5, 5, left), ("firm",)), [0, 10])


class Reach(unittest.TestCase):
    def reaches(self, rows, columns, spots):
        asked = [("reach", strip) for strip in range(rows + columns)]
        return ask(*wall(rows, columns, spots), *asked)[1 + len(spots):]

    def test_no_ties(self):
        self.assertEqual(self.reaches(2, 1, []), [[1, 0], [1, 1], [1, 2]])

    def test_each_kind(self):
        self.assertEqual(self.reaches(1, 1, [(0, 0, 0)]), [[2, 0, 1], [1, 1]])
        self.assertEqual(self.reaches(1, 1, [(0, 0, 1)]), [[1, 0], [2, 0, 1]])

    def test_row_and_column_are_not_taken_for_one_another(self):
        self.assertEqual(self.reaches(2, 3, [(1, 2, 0)]), [[1, 0], [2, 1, 4], [1, 2], [1, 3], [1, 4]])
        self.assertEqual(self.reaches(3, 2, [(2, 1, 1)]), [[1, 0], [1, 1], [1, 2], [1, 3], [2, 2, 4]])

    def test_on_and_on(self):
        self.assertEqual(
            self.reaches(2, 2, RING_WITH_ONE_TURNED), [[4, 0, 1, 2, 3], [2, 1, 3], [3, 1, 2, 3], [1, 3]]
        )

    def test_ties_put_from_the_last_to_the_first(self):
        self.assertEqual(self.reaches(2, 2, RING_WITH_ONE_TURNED[::-1])[0], [4, 0, 1, 2, 3])

    def test_joined_rings(self):
        told = self.reaches(4, 4, JOINED_RINGS)
        for strip in (0, 1, 4, 5):
            self.assertEqual(told[strip], [8, 0, 1, 2, 3, 4, 5, 6, 7])
        for strip in (2, 3, 6, 7):
            self.assertEqual(told[strip], [4, 2, 3, 6, 7])

    def test_none_such(self):
        told = ask(("begin", 2, 3), ("reach", 4), ("reach", 5), ("reach", HUGE))
        self.assertEqual(told, [[0], [1, 4], [-2], [-2]])
        self.assertEqual(ask(("begin", 5, 5), ("reach", 9), ("reach", 10)), [[0], [1, 9], [-2]])


class Part(unittest.TestCase):
    def test_one_square(self):
        self.assertEqual(ask(("begin", 1, 1), ("part", 0), ("part", 1)), [[0], [1, 0], [1, 1]])
        self.assertEqual(ask(*wall(1, 1, BOTH[:1]), ("part", 0), ("part", 1))[2:], [[1, 0], [1, 1]])
        self.assertEqual(ask(*wall(1, 1, BOTH), ("part", 0), ("part", 1))[3:], [[2, 0, 1], [2, 0, 1]])

    def test_rings(self):
        for strip in range(4):
            self.assertEqual(ask_last(*wall(2, 2, RING), ("part", strip)), [4, 0, 1, 2, 3])
            self.assertEqual(ask_last(*wall(2, 2, RING_WITH_ONE_TURNED), ("part", strip)), [1, strip])
        for strip in (0, 1, 4, 5):
            self.assertEqual(ask_last(*wall(4, 4, JOINED_RINGS), ("part", strip)), [4, 0, 1, 4, 5])
        for strip in (2, 3, 6, 7):
            self.assertEqual(ask_last(*wall(4, 4, JOINED_RINGS), ("part", strip)), [4, 2, 3, 6, 7])

    def test_none_such(self):
        told = ask(("begin", 3, 1), ("part", 3), ("part", 4), ("part", HUGE))
        self.assertEqual(told, [[0], [1, 3], [-2], [-2]])


class Parts(unittest.TestCase):
    def test_walls(self):
        for rows, columns, spots, told in [
            (1, 1, [], [2, 0, 1]),
            (1, 1, BOTH, [2, 0, 0]),
            (2, 2, RING, [4, 0, 0, 0, 0]),
            (2, 2, RING_WITH_ONE_TURNED, [4, 0, 1, 2, 3]),
            (4, 4, JOINED_RINGS, [8, 0, 0, 2, 2, 0, 0, 2, 2]),
            (3, 2, [(2, 1, 1), (2, 1, 0)], [5, 0, 1, 2, 3, 2]),
        ]:
            with self.subTest(rows=rows, columns=columns, spots=spots):
                self.assertEqual(ask_last(*wall(rows, columns, spots), ("parts",)), told)


class Ends(unittest.TestCase):
    def test_walls(self):
        for rows, columns, spots, told in [
            # Each strip is a part that's a start and an end.
            (1, 1, [], [2, 2, 0, 1, 0, 1]),
            (1, 1, [(0, 0, 0)], [1, 1, 1, 0]),
            (1, 1, [(0, 0, 1)], [1, 1, 0, 1]),
            (1, 1, BOTH, [1, 1, 0, 0]),
            (2, 2, RING, [1, 1, 0, 0]),
            (2, 2, RING_WITH_ONE_TURNED, [1, 1, 3, 0]),
            (4, 4, TWO_RINGS, [2, 2, 0, 2, 0, 2]),
            (4, 4, JOINED_RINGS, [1, 1, 2, 0]),
            # Row 2 stays by itself: a start that's an end beside others that aren't both.
            (3, 2, [(0, 0, 0), (1, 0, 0), (1, 1, 0)], [3, 3, 2, 3, 4, 0, 1, 2]),
            # More ends than starts, and more starts than ends.
            (1, 3, [(0, 0, 0), (0, 1, 0), (0, 2, 0)], [3, 1, 1, 2, 3, 0]),
            (1, 3, [(0, 0, 1), (0, 1, 1), (0, 2, 1)], [1, 3, 0, 1, 2, 3]),
        ]:
            with self.subTest(rows=rows, columns=columns, spots=spots):
                self.assertEqual(ask_last(*wall(rows, columns, spots), ("ends",)), told)

    def test_a_part_in_the_middle_is_neither(self):
        told = ask_last(*wall(3, 3, [(0, 1, 0), (1, 1, 1), (1, 1, 0), (2, 1, 1)]), ("ends",))
        self.assertEqual(told, [3, 3, 2, 3, 5, 0, 3, 5])


class Leans(unittest.TestCase):
    def test_one_square(self):
        asked = [("leans", 0, 0, 0), ("leans", 0, 0, 1)]
        self.assertEqual(ask(("begin", 1, 1), *asked)[1:], [[1], [1]])
        self.assertEqual(ask(*wall(1, 1, BOTH[:1]), *asked)[2:], [[0], [1]])
        self.assertEqual(ask(*wall(1, 1, BOTH[1:]), *asked)[2:], [[1], [0]])
        self.assertEqual(ask(*wall(1, 1, BOTH), *asked)[3:], [[0], [0]])

    def test_a_square_without_ties_held_by_others(self):
        # Row 0 comes to column 1 by column 0 and row 1; not back.
        spots = RING_WITH_ONE_TURNED[:3]
        self.assertEqual(ask(*wall(2, 2, spots), ("leans", 0, 1, 0), ("leans", 0, 1, 1))[4:], [[0], [1]])

    def test_none_such(self):
        for spot in [(2, 0, 0), (0, 3, 0), (0, 0, 2), (HUGE, 0, 0), (0, HUGE, 0), (0, 0, HUGE)]:
            with self.subTest(spot=spot):
                self.assertEqual(ask(("begin", 2, 3), ("leans",) + spot), [[0], [-2]])


class AllLeans(unittest.TestCase):
    def test_walls(self):
        for rows, columns, spots, told in [
            (1, 1, [], [2, 1, 1]),
            (1, 1, BOTH[:1], [1, 0, 1]),
            (1, 1, BOTH[1:], [1, 1, 0]),
            (1, 1, BOTH, [0, 0, 0]),
            (2, 2, RING, [0] * 9),
            (2, 2, RING_WITH_ONE_TURNED, [4, 0, 1, 0, 1, 1, 0, 0, 1]),
            (2, 3, [(1, 2, 0)], [11, 1, 1, 1, 1, 1, 1, 1, 1, 1, 1, 0, 1]),
            (2, 3, [(0, 1, 1)], [11, 1, 1, 1, 0, 1, 1, 1, 1, 1, 1, 1, 1]),
            (5, 5, [], [50] + [1] * 50),
        ]:
            with self.subTest(rows=rows, columns=columns, spots=spots):
                self.assertEqual(ask_last(*wall(rows, columns, spots), ("all_leans",)), told)

    def test_joined_rings(self):
        told = ask_last(*wall(4, 4, JOINED_RINGS), ("all_leans",))
        still = [0, 0]
        # From the first ring one comes to the second, not back.
        first_row, later_row = still * 2 + [0, 1] * 2, [1, 0] * 2 + still * 2
        self.assertEqual(told, [8] + first_row * 2 + later_row * 2)


class Lean(unittest.TestCase):
    def test_no_ties(self):
        told = ask(("begin", 2, 3), ("lean", 1, 2, 0), ("lean", 1, 2, 1), ("lean", 0, 0, 0), ("lean", 0, 0, 1))
        self.assertEqual(told[1:], [[5, 0, 1, 0, 0, 0], [5, 0, 0, 0, 0, 1], [5, 1, 0, 0, 0, 0], [5, 0, 0, 1, 0, 0]])

    def test_one_square(self):
        asked = [("lean", 0, 0, 0), ("lean", 0, 0, 1)]
        self.assertEqual(ask(("begin", 1, 1), *asked)[1:], [[2, 1, 0], [2, 0, 1]])
        self.assertEqual(ask(*wall(1, 1, BOTH[:1]), *asked)[2:], [[-33], [2, 0, 1]])
        self.assertEqual(ask(*wall(1, 1, BOTH[1:]), *asked)[2:], [[2, 1, 0], [-33]])
        self.assertEqual(ask(*wall(1, 1, BOTH), *asked)[3:], [[-33], [-33]])

    def test_rings(self):
        for spot in RING:
            for kind in (0, 1):
                self.assertEqual(ask_last(*wall(2, 2, RING), ("lean", spot[0], spot[1], kind)), [-33])
        turned = wall(2, 2, RING_WITH_ONE_TURNED)
        self.assertEqual(ask_last(*turned, ("lean", 0, 0, 1)), [4, 0, 1, 1, 1])
        self.assertEqual(ask_last(*turned, ("lean", 0, 1, 1)), [4, 0, 0, 0, 1])
        self.assertEqual(ask_last(*turned, ("lean", 1, 0, 0)), [4, 0, 1, 0, 1])
        joined = wall(4, 4, JOINED_RINGS)
        self.assertEqual(ask_last(*joined, ("lean", 0, 3, 1)), [8, 0, 0, 1, 1, 0, 0, 1, 1])
        self.assertEqual(ask_last(*joined, ("lean", 2, 1, 0)), [8, 0, 0, 1, 1, 0, 0, 1, 1])
        self.assertEqual(ask_last(*joined, ("lean", 0, 3, 0)), [-33])

    def test_none_such_comes_ahead_of_not_so(self):
        for spot in [(1, 0, 0), (0, 1, 0), (0, 0, 2), (HUGE, 0, 0), (0, HUGE, 0), (0, 0, HUGE)]:
            with self.subTest(spot=spot):
                self.assertEqual(ask_last(*wall(1, 1, BOTH), ("lean",) + spot), [-2])

    def test_it_keeps_what_is_tied_and_does_lean(self):
        spots = [(0, 0, 0), (1, 0, 1), (1, 2, 0), (2, 2, 1), (3, 1, 1), (3, 4, 0), (4, 3, 0), (0, 3, 1)]
        for row in range(5):
            for column in range(5):
                for kind in (0, 1):
                    asked = [("leans", row, column, kind), ("lean", row, column, kind)]
                    leans, told = ask(*wall(5, 5, spots), *asked)[-2:]
                    self.assertEqual(told == [-33], leans == [0])
                    if leans == [1]:
                        self.check_way(told[1:], spots, row, column, kind)

    def check_way(self, way, spots, row, column, kind):
        self.assertEqual(len(way), 10)
        less_row = way[row] < way[5 + column]
        self.assertEqual((way[row] == way[5 + column], less_row), (False, kind == 1))
        for tied_row, tied_column, tied_kind in spots:
            turns = way[tied_row], way[5 + tied_column]
            self.assertLessEqual(turns[tied_kind], turns[1 - tied_kind])


class Asking(unittest.TestCase):
    def test_changes_nothing(self):
        for call in LOOK + [("reach", 2), ("part", 1), ("leans", 0, 1, 1), ("lean", 0, 1, 1), ("lean", 0, 0, 0)]:
            with self.subTest(call=call):
                told = ask(*wall(2, 2, RING_WITH_ONE_TURNED), *LOOK, call, *LOOK)
                self.assertEqual(told[10:], told[5:9])

    def test_refused_changes_nothing(self):
        for call in [("reach", 4), ("part", HUGE), ("leans", 2, 0, 0), ("lean", 0, 0, 2), ("lean", 0, 1, 0)]:
            with self.subTest(call=call):
                told = ask(*wall(2, 2, RING_WITH_ONE_TURNED), *LOOK, call, *LOOK)
                self.assertLess(told[9][0], 0)
                self.assertEqual(told[10:], told[5:9])


if __name__ == "__main__":
    unittest.main()
