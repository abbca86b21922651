"""Point 4: put."""

import itertools
import unittest

from tests.asking import RING, RING_WITH_ONE_TURNED
from tests.asking import all_spots, ask_behind, ask_last, every_wall, first_difference, look_around, threes, wall
from tests.dice import Dice

BOTH = [(0, 0, 0), (0, 0, 1)]
# Of a wall of 3 by 3: one ring through all strips.
STAIRS = [(0, 0, 0), (1, 0, 1), (1, 1, 0), (2, 1, 1), (2, 2, 0), (0, 2, 1)]
# All there are with 9 squares at most.
SIZES = [(rows, columns) for rows in range(1, 6) for columns in range(1, 6) if rows * columns <= 9]


def is_firm(rows, columns, ties):
    return ask_last(*wall(rows, columns, ties), ("firm",))[0] == 1


def sets_that_make_it_firm(rows, columns, ties, many):
    missing = [spot for spot in all_spots(rows, columns) if spot not in ties]
    return [chosen for chosen in itertools.combinations(missing, many) if is_firm(rows, columns, ties + list(chosen))]


def is_ahead(one, other, order):
    """Whether one comes ahead of another set: by the first tie in order that's in one of them alone."""
    for spot in order:
        if (spot in one) != (spot in other):
            return spot in one
    return False


class Put(unittest.TestCase):
    def test_none_more_is_needed(self):
        for rows, columns, ties in [(1, 1, BOTH), (2, 2, RING), (3, 3, STAIRS), (3, 3, all_spots(3, 3))]:
            with self.subTest(rows=rows, columns=columns, ties=ties):
                self.assertEqual(ask_last(*wall(rows, columns, ties), ("put",)), [0])

    def test_walls(self):
        for rows, columns, ties, told in [
            (1, 1, BOTH[:1], [1, 0, 0, 1]),
            (1, 1, BOTH[1:], [1, 0, 0, 0]),
            (1, 1, [], [2, 0, 0, 0, 0, 0, 1]),
            # The ring's last, and for the one that's turned the same tie turned back, beside it.
            (2, 2, RING[:3], [1, 0, 1, 1]),
            (2, 2, RING_WITH_ONE_TURNED, [1, 0, 1, 1]),
            (2, 2, RING[:2], [2, 0, 1, 1, 1, 1, 0]),
            (2, 2, RING[:1], [3, 0, 1, 1, 1, 0, 1, 1, 1, 0]),
            (2, 2, [], [4, 0, 0, 0, 0, 1, 1, 1, 0, 1, 1, 1, 0]),
            (1, 2, [], [4, 0, 0, 0, 0, 0, 1, 0, 1, 0, 0, 1, 1]),
            (2, 1, [], [4, 0, 0, 0, 0, 0, 1, 1, 0, 0, 1, 0, 1]),
            (3, 3, STAIRS[:2], [4, 0, 1, 1, 1, 2, 0, 2, 1, 0, 2, 2, 1]),
        ]:
            with self.subTest(rows=rows, columns=columns, ties=ties):
                self.assertEqual(ask_last(*wall(rows, columns, ties), ("put",)), told)

    def test_four_more_are_not_enough(self):
        for rows, columns, ties in [(1, 3, []), (3, 1, []), (3, 3, []), (2, 4, []), (1, 5, BOTH), (3, 3, STAIRS[:1])]:
            with self.subTest(rows=rows, columns=columns, ties=ties):
                self.assertEqual(ask_last(*wall(rows, columns, ties), ("put",)), [-33])
        # Four ends, but from a column that hangs by itself one tie must lead out and another in.
        self.assertEqual(ask_behind(wall(1, 4, BOTH), ("state",), ("put",)), [[1, 4, 2, 4], [-33]])

    def test_just_four_more(self):
        self.assertEqual(ask_last(*wall(1, 3, BOTH), ("put",)), [4, 0, 1, 0, 0, 1, 1, 0, 2, 0, 0, 2, 1])
        told = ask_last(*wall(1, 5, all_spots(1, 5)[4:]), ("put",))
        self.assertEqual(told, [4, 0, 0, 0, 0, 0, 1, 0, 1, 0, 0, 1, 1])

    def test_more_than_ends_and_starts(self):
        # No tie leads from column to column: three ends, and yet each column needs both its ties.
        told = ask_behind(wall(1, 2, []), ("state",), ("put",))
        self.assertEqual(told, [[1, 2, 0, 3], [4, 0, 0, 0, 0, 0, 1, 0, 1, 0, 0, 1, 1]])

    def test_more_than_nine_squares(self):
        for rows in range(1, 6):
            for columns in range(1, 6):
                with self.subTest(rows=rows, columns=columns):
                    told = ask_last(("begin", rows, columns), ("put",))
                    self.assertEqual(told == [-28], rows * columns > 9)

    def test_ten_squares_and_nine(self):
        for rows, columns in [(2, 5), (5, 2)]:
            with self.subTest(rows=rows, columns=columns):
                # Neither how firm it is nor how many are needed is looked at.
                self.assertEqual(ask_last(*wall(rows, columns, all_spots(rows, columns)), ("put",)), [-28])
                self.assertEqual(ask_last(*wall(rows, columns, all_spots(rows, columns)[1:]), ("put",)), [-28])
                self.assertEqual(ask_last(*wall(rows, columns, []), ("put",)), [-28])
        self.assertEqual(ask_last(*wall(3, 3, STAIRS[1:]), ("put",)), [1, 0, 0, 0])
        self.assertEqual(ask_last(*wall(4, 2, all_spots(4, 2)), ("put",)), [0])

    def test_in_the_order_of_squares_not_of_putting(self):
        for ties in [STAIRS[4:], STAIRS[:3:-1]]:
            with self.subTest(ties=ties):
                told = threes(ask_last(*wall(3, 3, ties), ("put",))[1:])
                self.assertEqual(told, sorted(told))

    def test_behind_changes(self):
        changes = [("free", 0, 0, 0), ("tie", 0, 0, 0), ("flip", 0, 1, 1), ("begin", 1, 1)]
        calls = [call for change in changes for call in (change, ("put",))]
        told = ask_behind(wall(2, 2, RING), *calls)
        self.assertEqual(told[1::2], [[1, 0, 0, 0], [0], [1, 0, 1, 1], [2, 0, 0, 0, 0, 0, 1]])


class Fewest(unittest.TestCase):
    def check(self, rows, columns, ties):
        """All that's promised of put, by trying every set with tie and firm."""
        told = ask_last(*wall(rows, columns, ties), ("put",))
        many = told[0] if told != [-33] else 5
        for fewer in range(many):
            self.assertEqual(sets_that_make_it_firm(rows, columns, ties, fewer), [], (rows, columns, ties))
        if told != [-33]:
            self.assertEqual(len(told), 1 + 3 * many)
            chosen = threes(told[1:])
            sets = sets_that_make_it_firm(rows, columns, ties, many)
            self.assertIn(tuple(chosen), sets)
            order = all_spots(rows, columns)
            for other in sets:
                self.assertFalse(is_ahead(other, chosen, order), (rows, columns, ties, other))

    def test_all_walls_of_at_most_two_squares(self):
        for rows, columns in [(1, 1), (1, 2), (2, 1)]:
            for ties in every_wall(rows, columns):
                self.check(rows, columns, ties)

    def test_walls_of_four_squares(self):
        for ties in itertools.islice(every_wall(2, 2), 0, 256, 5):
            self.check(2, 2, ties)

    def test_walls_of_nine_squares(self):
        for ties in [STAIRS[1:], STAIRS[:4], [(0, 0, 0), (1, 1, 0), (2, 2, 1), (0, 1, 1), (2, 0, 0), (1, 2, 1)]]:
            self.check(3, 3, ties)

    def test_then_it_is_firm(self):
        dice = Dice(11)
        for place in range(150):
            rows, columns = dice.one_of(SIZES)
            ties = [spot for spot in all_spots(rows, columns) if dice.below(2)]
            put, state = ask_behind(wall(rows, columns, ties), ("put",), ("state",))
            if put != [-33]:
                self.assertGreaterEqual(put[0], state[3])
                told = ask_behind(wall(rows, columns, ties + threes(put[1:])), ("firm",), ("put",))
                self.assertEqual(told, [[1, 1], [0]])


class Asking(unittest.TestCase):
    def test_changes_nothing(self):
        for ties, told in [(STAIRS, [0]), (STAIRS[1:], [1, 0, 0, 0]), ([], [-33])]:
            with self.subTest(ties=ties):
                put, before, after = look_around(wall(3, 3, ties), ("put",))
                self.assertEqual(put, told)
                self.assertEqual(after, before)

    def test_too_many_changes_nothing(self):
        put, before, after = look_around(wall(5, 2, [(4, 1, 0), (0, 0, 1)]), ("put",))
        self.assertEqual(put, [-28])
        self.assertEqual(after, before)

    def test_a_line_full_of_it_ends(self):
        # Of all walls of 9 squares at most one of those that take the most searching.
        ties = [spot for place, spot in enumerate(all_spots(2, 4)) if 9380 >> place & 1]
        calls = wall(2, 4, ties)
        asked = 400 - len(calls)
        self.assertIsNone(first_difference(ask_behind(calls, *[("put",)] * asked), [[-33]] * asked))


if __name__ == "__main__":
    unittest.main()
