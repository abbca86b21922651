"""Point 4: spare, spares, would, falls."""

import unittest

from tests.asking import HUGE, JOINED_RINGS, RING, RING_WITH_ONE_TURNED, TWO_RINGS
from tests.asking import all_spots, ask_behind, ask_last, look_around, wall

BOTH = [(0, 0, 0), (0, 0, 1)]
NO_SUCH_SPOTS = [(2, 0, 0), (0, 3, 0), (0, 0, 2), (HUGE, 0, 0), (0, HUGE, 0), (0, 0, HUGE), (HUGE, HUGE, HUGE)]
# From row 0 to column 1 straight, and by column 0 and row 1, too.
TWO_ROADS = [(0, 0, 0), (1, 0, 1), (1, 1, 0), (0, 1, 0)]


class Spare(unittest.TestCase):
    def spare_ones(self, rows, columns, ties):
        told = ask_behind(wall(rows, columns, ties), *[("spare",) + tie for tie in ties])
        return [tie for tie, answer in zip(ties, told) if answer == [1]], told

    def test_walls(self):
        for rows, columns, ties, told in [
            (1, 1, BOTH[:1], []),
            (1, 1, BOTH[1:], []),
            # Each forbids what the other doesn't.
            (1, 1, BOTH, []),
            (2, 2, RING, []),
            (2, 2, TWO_ROADS, [(0, 1, 0)]),
            (4, 4, TWO_RINGS, []),
            (4, 4, JOINED_RINGS, []),
            # A second tie from the first ring to the second: each by itself is spare.
            (4, 4, JOINED_RINGS + [(3, 1, 1)], [(0, 2, 0), (3, 1, 1)]),
            # One back isn't.
            (4, 4, JOINED_RINGS + [(3, 1, 0)], []),
            # A ring firm by itself needs no second tie in its squares.
            (2, 2, RING + [(0, 0, 1)], [(0, 0, 1)]),
            (2, 2, all_spots(2, 2), all_spots(2, 2)),
            (5, 5, all_spots(5, 5), all_spots(5, 5)),
            (1, 5, all_spots(1, 5), []),
        ]:
            with self.subTest(rows=rows, columns=columns, ties=ties):
                spare, answers = self.spare_ones(rows, columns, ties)
                self.assertEqual(spare, told)
                self.assertTrue(all(answer in ([0], [1]) for answer in answers))

    def test_the_other_kind_alone_does_not_make_it_spare(self):
        # By the others one comes from column 0 to row 0, not from row 0 to column 0.
        self.assertEqual(ask_last(*wall(2, 2, RING), ("spare", 0, 0, 0)), [0])

    def test_not_there(self):
        told = ask_behind(wall(2, 2, RING), ("spare", 0, 0, 1), ("spare", 0, 1, 0), ("spare", 1, 1, 1))
        self.assertEqual(told, [[-6]] * 3)
        gone = [("free", 0, 0, 1), ("spare", 0, 0, 1), ("flip", 0, 0, 0), ("spare", 0, 0, 0), ("spare", 0, 0, 1)]
        self.assertEqual(ask_behind(wall(1, 1, BOTH), *gone), [[2], [-6], [2], [-6], [0]])

    def test_none_such_comes_ahead_of_not_there(self):
        for spot in NO_SUCH_SPOTS:
            with self.subTest(spot=spot):
                self.assertEqual(ask_last(*wall(2, 3, BOTH), ("spare",) + spot), [-2])


class Spares(unittest.TestCase):
    def test_none(self):
        for rows, columns, ties in [(1, 1, []), (1, 1, BOTH), (5, 5, []), (2, 2, RING), (4, 4, JOINED_RINGS)]:
            with self.subTest(rows=rows, columns=columns, ties=ties):
                self.assertEqual(ask_last(*wall(rows, columns, ties), ("spares",)), [0])

    def test_each_by_itself(self):
        # Not both can be taken away, but either.
        two_ties = JOINED_RINGS + [(3, 1, 1)]
        self.assertEqual(ask_last(*wall(4, 4, two_ties), ("spares",)), [2, 0, 2, 0, 3, 1, 1])

    def test_in_the_order_in_which_they_were_put(self):
        two_ties = [(3, 1, 1)] + JOINED_RINGS
        self.assertEqual(ask_last(*wall(4, 4, two_ties), ("spares",)), [2, 3, 1, 1, 0, 2, 0])
        backwards = all_spots(2, 2)[::-1]
        told = [8] + [number for spot in backwards for number in spot]
        self.assertEqual(ask_last(*wall(2, 2, backwards), ("spares",)), told)

    def test_behind_free(self):
        made = wall(4, 4, JOINED_RINGS + [(3, 1, 1)])
        told = ask_behind(made, ("free", 0, 2, 0), ("spares",), ("tie", 0, 2, 0), ("spares",))
        self.assertEqual(told, [[2], [0], [2], [2, 3, 1, 1, 0, 2, 0]])

    def test_behind_flip(self):
        # Turned, the second tie between the rings leads as the first does; at its place, ahead of the rings.
        made = wall(4, 4, [(3, 1, 0)] + JOINED_RINGS)
        told = ask_behind(made, ("spares",), ("flip", 3, 1, 0), ("spares",))
        self.assertEqual(told, [[0], [2], [2, 3, 1, 1, 0, 2, 0]])
        # The first turned, too, one comes back by it: then one ring round both makes a tie of each ring spare.
        told = ask_behind(made, ("flip", 3, 1, 0), ("flip", 0, 2, 0), ("spares",))
        self.assertEqual(told, [[2], [1], [2, 0, 1, 1, 3, 2, 1]])


class Would(unittest.TestCase):
    def test_walls(self):
        for rows, columns, ties, spot, told in [
            (1, 1, [], (0, 0, 0), [2, 1]),
            (1, 1, [], (0, 0, 1), [2, 1]),
            (1, 1, BOTH[:1], (0, 0, 1), [1, 1]),
            (1, 1, BOTH[1:], (0, 0, 0), [1, 1]),
            (2, 2, RING[:3], (0, 1, 1), [1, 4]),
            # It's spare at once: nothing less could lean.
            (2, 2, RING[:3], (0, 1, 0), [4, 0]),
            (2, 2, RING, (0, 0, 1), [1, 0]),
            # The tie between two rings keeps four squares from leaning one way; one back the other four.
            (4, 4, TWO_RINGS, (0, 2, 0), [2, 8]),
            (4, 4, JOINED_RINGS, (3, 1, 0), [1, 8]),
            (4, 4, JOINED_RINGS, (3, 1, 1), [2, 0]),
            (5, 5, [], (4, 4, 1), [10, 1]),
        ]:
            with self.subTest(rows=rows, columns=columns, ties=ties, spot=spot):
                self.assertEqual(ask_last(*wall(rows, columns, ties), ("would",) + spot), told)

    def test_as_tie_tells_then(self):
        for ties in [[], RING[:2], RING_WITH_ONE_TURNED, [(2, 1, 0), (0, 1, 1), (0, 2, 0)]]:
            made = wall(3, 4, ties)
            for spot in all_spots(3, 4):
                if spot not in ties:
                    with self.subTest(ties=ties, spot=spot):
                        told = ask_behind(made, ("would",) + spot, ("all_leans",), ("tie",) + spot, ("all_leans",))
                        self.assertEqual(told[0], [told[2][0], told[1][0] - told[3][0]])

    def test_there_already(self):
        self.assertEqual(ask_behind(wall(2, 2, RING), *[("would",) + tie for tie in RING]), [[-17]] * 4)
        told = ask_behind(wall(1, 1, BOTH[:1]), ("flip", 0, 0, 0), ("would", 0, 0, 1), ("would", 0, 0, 0))
        self.assertEqual(told, [[2], [-17], [1, 1]])

    def test_none_such(self):
        for spot in NO_SUCH_SPOTS:
            with self.subTest(spot=spot):
                self.assertEqual(ask_last(*wall(2, 3, BOTH), ("would",) + spot), [-2])


class Falls(unittest.TestCase):
    def test_walls(self):
        for rows, columns, ties, spot, told in [
            (1, 1, BOTH[:1], (0, 0, 0), [2, 1]),
            (1, 1, BOTH[1:], (0, 0, 1), [2, 1]),
            (1, 1, BOTH, (0, 0, 0), [2, 1]),
            (1, 1, BOTH, (0, 0, 1), [2, 1]),
            (2, 2, RING, (0, 1, 1), [4, 4]),
            (2, 2, TWO_ROADS, (0, 1, 0), [4, 0]),
            # Row 0 still comes to column 1, to column 0 no more.
            (2, 2, TWO_ROADS, (0, 0, 0), [4, 1]),
            (2, 2, RING + [(0, 0, 1)], (0, 0, 1), [1, 0]),
            (4, 4, JOINED_RINGS, (0, 2, 0), [2, 8]),
            (4, 4, JOINED_RINGS + [(3, 1, 1)], (0, 2, 0), [2, 0]),
            (5, 5, all_spots(5, 5), (4, 4, 1), [1, 0]),
        ]:
            with self.subTest(rows=rows, columns=columns, ties=ties, spot=spot):
                self.assertEqual(ask_last(*wall(rows, columns, ties), ("falls",) + spot), told)

    def test_as_free_tells_then(self):
        for ties in [RING, RING + BOTH[1:], TWO_ROADS, all_spots(2, 2), [(2, 1, 0), (0, 1, 1), (0, 2, 0), (2, 3, 1)]]:
            made = wall(3, 4, ties)
            for spot in ties:
                with self.subTest(ties=ties, spot=spot):
                    told = ask_behind(made, ("falls",) + spot, ("all_leans",), ("free",) + spot, ("all_leans",))
                    self.assertEqual(told[0], [told[2][0], told[3][0] - told[1][0]])

    def test_not_there(self):
        told = ask_behind(wall(2, 2, RING), ("falls", 0, 0, 1), ("falls", 0, 1, 0), ("falls", 1, 1, 1))
        self.assertEqual(told, [[-6]] * 3)

    def test_none_such_comes_ahead_of_not_there(self):
        for spot in NO_SUCH_SPOTS:
            with self.subTest(spot=spot):
                self.assertEqual(ask_last(*wall(2, 3, BOTH), ("falls",) + spot), [-2])


class Asking(unittest.TestCase):
    def test_changes_nothing(self):
        made = wall(3, 3, [(2, 2, 1)] + TWO_ROADS)
        for call in [("spare", 0, 1, 0), ("spare", 0, 0, 0), ("would", 0, 1, 1), ("falls", 0, 0, 0), ("spares",)]:
            with self.subTest(call=call):
                told, before, after = look_around(made, call)
                self.assertGreaterEqual(told[0], 0)
                self.assertEqual(after, before)

    def test_refused_changes_nothing(self):
        made = wall(3, 3, [(2, 2, 1)] + TWO_ROADS)
        for call, refusal in [
            (("spare", 0, 1, 1), -6),
            (("spare", 3, 0, 0), -2),
            (("would", 0, 1, 0), -17),
            (("would", 0, 3, 0), -2),
            (("falls", 0, 1, 1), -6),
            (("falls", 0, 0, 2), -2),
        ]:
            with self.subTest(call=call):
                told, before, after = look_around(made, call)
                self.assertEqual(told, [refusal])
                self.assertEqual(after, before)


if __name__ == "__main__":
    unittest.main()
