"""Point 1: begin, tie, free, flip, ties, state."""

import unittest

from tests.asking import EVERY_CALL_BUT_BEGIN, HUGE, JOINED_RINGS, RING, RING_WITH_ONE_TURNED, TWO_RINGS
from tests.asking import all_spots, ask, ask_behind, ask_last, look_around, wall

BOTH = [(0, 0, 0), (0, 0, 1)]


class Begin(unittest.TestCase):
    def test_every_size_there_is(self):
        for rows in range(1, 6):
            for columns in range(1, 6):
                with self.subTest(rows=rows, columns=columns):
                    strips = rows + columns
                    self.assertEqual(
                        ask(("begin", rows, columns), ("parts",), ("firm",)),
                        [[0], [strips] + list(range(strips)), [0, strips]],
                    )

    def test_sizes_out_of_range(self):
        for rows, columns in [(0, 1), (1, 0), (0, 0), (6, 1), (1, 6), (6, 6), (HUGE, 5), (5, HUGE), (HUGE, HUGE)]:
            with self.subTest(rows=rows, columns=columns):
                self.assertEqual(ask(("begin", rows, columns)), [[-22]])

    def test_rows_are_told_ahead_of_columns(self):
        # Of 2 rows and 3 columns: there's a row 1 and a column 2, no row 2 and no column 3.
        self.assertEqual(
            ask(("begin", 2, 3), ("tie", 1, 2, 0), ("tie", 2, 1, 0), ("tie", 1, 3, 0)), [[0], [5], [-2], [-2]]
        )

    def test_all_others_before_it(self):
        for call in EVERY_CALL_BUT_BEGIN:
            with self.subTest(call=call):
                self.assertEqual(ask(call), [[-11]])

    def test_all_others_after_a_refused_one(self):
        for call in EVERY_CALL_BUT_BEGIN:
            with self.subTest(call=call):
                self.assertEqual(ask(("begin", 6, 5), call, ("begin", 1, 0), call), [[-22], [-11], [-22], [-11]])

    def test_not_begun_comes_ahead_of_none_such(self):
        for name in ["tie", "free", "leans", "lean", "spare", "would", "falls", "flip"]:
            with self.subTest(name=name):
                self.assertEqual(ask((name, 9, 9, 9), (name, 0, 0, 2), (name, HUGE, HUGE, HUGE)), [[-11]] * 3)
        for call in [("reach", 99), ("part", HUGE), ("stiff", 9, 9), ("stiff", 0, HUGE)]:
            with self.subTest(call=call):
                self.assertEqual(ask(call), [[-11]])

    def test_not_begun_comes_ahead_of_a_way_out_of_range(self):
        for length in range(13):
            with self.subTest(length=length):
                self.assertEqual(ask(("turn", [1] * length), ("put",)), [[-11], [-11]])

    def test_what_came_before_it_is_not_kept(self):
        self.assertEqual(ask(("tie", 0, 0, 0), ("begin", 1, 1), ("tie", 0, 0, 0)), [[-11], [0], [2]])

    def test_another_takes_all_ties_away(self):
        told = ask(*wall(2, 2, RING), ("firm",), ("begin", 2, 2), ("firm",), ("free", 0, 0, 0), ("tie", 0, 0, 0))
        self.assertEqual(told[5:], [[1, 1], [0], [0, 4], [-6], [4]])

    def test_another_of_another_size(self):
        told = ask(("begin", 1, 1), ("reach", 2), ("begin", 5, 4), ("reach", 8), ("reach", 9), ("begin", 1, 2))
        self.assertEqual(told, [[0], [-2], [0], [1, 8], [-2], [0]])
        self.assertEqual(ask(("begin", 5, 5), ("begin", 1, 2), ("reach", 3), ("tie", 1, 0, 0))[2:], [[-2], [-2]])

    def test_a_refused_one_in_the_middle_changes_nothing(self):
        for sizes in [(0, 3), (3, 0), (6, 1), (1, 6), (HUGE, HUGE)]:
            with self.subTest(sizes=sizes):
                told, before, after = look_around(wall(4, 4, JOINED_RINGS), ("begin",) + sizes)
                self.assertEqual(told, [-22])
                self.assertEqual(after, before)


class Tie(unittest.TestCase):
    def test_one_square_with_both(self):
        self.assertEqual(ask(("begin", 1, 1), ("tie", 0, 0, 0), ("tie", 0, 0, 1)), [[0], [2], [1]])
        self.assertEqual(ask(("begin", 1, 1), ("tie", 0, 0, 1), ("tie", 0, 0, 0)), [[0], [2], [1]])

    def test_a_ring_closes_with_its_last(self):
        self.assertEqual(ask(*wall(2, 2, RING)), [[0], [4], [4], [4], [1]])

    def test_two_rings(self):
        self.assertEqual(ask(*wall(4, 4, TWO_RINGS)), [[0], [8], [8], [8], [5], [5], [5], [5], [2]])

    def test_a_tie_between_two_parts_and_one_back(self):
        self.assertEqual(ask(*wall(4, 4, JOINED_RINGS), ("tie", 3, 1, 1))[-2:], [[2], [2]])
        self.assertEqual(ask(*wall(4, 4, JOINED_RINGS), ("tie", 3, 1, 0))[-2:], [[2], [1]])

    def test_five_by_five_all_in_both_kinds(self):
        spots = [(row, column, kind) for kind in (0, 1) for row in range(5) for column in range(5)]
        told = ask(*wall(5, 5, spots))
        self.assertEqual(told[1:26], [[10]] * 25)
        # With all of kind 0 there, each of kind 1 in row 0 brings another column to hang together with
        # that row; and of each later row the first of kind 1 brings that row in, the others nothing.
        self.assertEqual(told[26:], [[9], [8], [7], [6], [5]] + [[4]] * 5 + [[3]] * 5 + [[2]] * 5 + [[1]] * 5)

    def test_none_such(self):
        for spot in [(2, 0, 0), (0, 3, 0), (0, 0, 2), (HUGE, 0, 0), (0, HUGE, 0), (0, 0, HUGE), (HUGE, HUGE, HUGE)]:
            with self.subTest(spot=spot):
                self.assertEqual(ask(("begin", 2, 3), ("tie",) + spot), [[0], [-2]])

    def test_there_already(self):
        told = ask(("begin", 2, 2), ("tie", 1, 0, 1), ("tie", 1, 0, 1), ("tie", 1, 0, 0), ("tie", 1, 0, 1))
        self.assertEqual(told, [[0], [4], [-17], [3], [-17]])

    def test_one_put_twice_is_gone_after_one_free(self):
        told = ask(("begin", 1, 1), ("tie", 0, 0, 0), ("tie", 0, 0, 0), ("free", 0, 0, 0), ("leans", 0, 0, 0))
        self.assertEqual(told, [[0], [2], [-17], [2], [1]])

    def test_refused_changes_nothing(self):
        for spot in [(0, 0, 0), (0, 0, 2), (2, 0, 0), (0, 2, 1), (HUGE, 1, 1)]:
            with self.subTest(spot=spot):
                told, before, after = look_around(wall(2, 2, RING[:3]), ("tie",) + spot)
                self.assertLess(told[0], 0)
                self.assertEqual(after, before)


class Free(unittest.TestCase):
    def test_a_ring_falls_apart(self):
        for spot in RING:
            with self.subTest(spot=spot):
                self.assertEqual(ask_last(*wall(2, 2, RING), ("free",) + spot), [4])

    def test_one_of_both(self):
        told = ask(*wall(1, 1, [(0, 0, 0), (0, 0, 1)]), ("free", 0, 0, 0), ("leans", 0, 0, 0), ("leans", 0, 0, 1))
        self.assertEqual(told[3:], [[2], [1], [0]])
        told = ask(*wall(1, 1, [(0, 0, 0), (0, 0, 1)]), ("free", 0, 0, 1), ("leans", 0, 0, 0), ("leans", 0, 0, 1))
        self.assertEqual(told[3:], [[2], [0], [1]])

    def test_one_that_nothing_hangs_on(self):
        self.assertEqual(ask(*wall(4, 4, JOINED_RINGS), ("free", 0, 2, 0), ("reach", 0))[-2:], [[2], [4, 0, 1, 4, 5]])

    def test_and_put_again(self):
        told = ask(*wall(2, 2, RING), ("free", 1, 1, 0), ("tie", 1, 1, 0), ("free", 1, 1, 0), ("tie", 1, 1, 0))
        self.assertEqual(told[4:], [[1], [4], [1], [4], [1]])

    def test_not_there(self):
        told = ask(("begin", 2, 2), ("free", 0, 0, 0), ("tie", 0, 0, 0), ("free", 0, 0, 1), ("free", 0, 1, 0))
        self.assertEqual(told, [[0], [-6], [4], [-6], [-6]])
        told = ask(*wall(2, 2, [(0, 1, 1)]), ("free", 1, 0, 1), ("free", 0, 1, 1), ("free", 0, 1, 1))
        self.assertEqual(told[2:], [[-6], [4], [-6]])

    def test_none_such_comes_ahead_of_not_there(self):
        for spot in [(2, 0, 0), (0, 3, 0), (0, 0, 2), (HUGE, 0, 0), (0, HUGE, 0), (0, 0, HUGE)]:
            with self.subTest(spot=spot):
                self.assertEqual(ask(("begin", 2, 3), ("free",) + spot), [[0], [-2]])

    def test_refused_changes_nothing(self):
        for spot in [(0, 0, 1), (1, 0, 0), (0, 0, 2), (2, 0, 0), (0, 2, 1), (HUGE, 1, 1)]:
            with self.subTest(spot=spot):
                told, before, after = look_around(wall(2, 2, RING), ("free",) + spot)
                self.assertLess(told[0], 0)
                self.assertEqual(after, before)


class Flip(unittest.TestCase):
    def test_one_square(self):
        told = ask(*wall(1, 1, BOTH[:1]), ("flip", 0, 0, 0), ("ties",), ("all_leans",), ("flip", 0, 0, 1), ("ties",))
        self.assertEqual(told[2:], [[2], [1, 0, 0, 1], [1, 1, 0], [2], [1, 0, 0, 0]])

    def test_a_ring_opens_and_closes(self):
        self.assertEqual(ask_behind(wall(2, 2, RING), ("flip", 0, 1, 1), ("firm",)), [[4], [0, 4]])
        self.assertEqual(ask_behind(wall(2, 2, RING_WITH_ONE_TURNED), ("flip", 0, 1, 0), ("firm",)), [[1], [1, 1]])
        for spot in RING:
            with self.subTest(spot=spot):
                back = spot[:2] + (1 - spot[2],)
                told = ask_behind(wall(2, 2, RING), ("flip",) + spot, ("flip",) + back, ("ties",))
                self.assertEqual(told[:2], [[4], [1]])
                self.assertEqual(told[2], [4, 0, 0, 0, 1, 0, 1, 1, 1, 0, 0, 1, 1])

    def test_the_tie_between_two_rings(self):
        told = ask_behind(wall(4, 4, JOINED_RINGS), ("flip", 0, 2, 0), ("ends",), ("reach", 0), ("reach", 2))
        self.assertEqual(told, [[2], [1, 1, 0, 2], [4, 0, 1, 4, 5], [8, 0, 1, 2, 3, 4, 5, 6, 7]])

    def test_it_stays_at_its_place(self):
        ties = [(1, 1, 0), (0, 0, 1), (2, 0, 0), (0, 1, 1)]
        for place, spot in enumerate(ties):
            with self.subTest(spot=spot):
                turned = spot[:2] + (1 - spot[2],)
                told = ask_behind(wall(3, 2, ties), ("flip",) + spot, ("ties",))
                self.assertEqual(told[1], in_a_row(ties[:place] + [turned] + ties[place + 1:]))

    def test_onto_one_that_is_there(self):
        for kind in (0, 1):
            for ties in (BOTH, BOTH[::-1]):
                with self.subTest(kind=kind, ties=ties):
                    told, before, after = look_around(wall(1, 1, ties), ("flip", 0, 0, kind))
                    self.assertEqual(told, [-17])
                    self.assertEqual(after, before)

    def test_onto_one_that_is_not_there_any_more(self):
        told = ask_behind(wall(1, 1, BOTH), ("flip", 0, 0, 0), ("free", 0, 0, 1), ("flip", 0, 0, 0), ("ties",))
        self.assertEqual(told, [[-17], [2], [2], [1, 0, 0, 1]])

    def test_what_was_turned_is_not_there_any_more(self):
        told = ask_behind(wall(2, 1, [(1, 0, 0)]), ("flip", 1, 0, 0), ("flip", 1, 0, 0), ("free", 1, 0, 0))
        self.assertEqual(told, [[3], [-6], [-6]])
        told = ask_behind(wall(2, 1, [(1, 0, 0)]), ("flip", 1, 0, 0), ("tie", 1, 0, 1), ("tie", 1, 0, 0))
        self.assertEqual(told, [[3], [-17], [2]])

    def test_not_there_comes_ahead_of_there_already(self):
        # Only the other kind is there: the one to turn isn't.
        told = ask_behind(wall(2, 2, RING), ("flip", 0, 0, 1), ("flip", 0, 1, 0))
        self.assertEqual(told, [[-6], [-6]])
        self.assertEqual(ask_behind(wall(2, 2, []), ("flip", 0, 0, 0), ("flip", 1, 1, 1)), [[-6], [-6]])

    def test_none_such(self):
        for spot in [(2, 0, 0), (0, 3, 0), (0, 0, 2), (HUGE, 0, 0), (0, HUGE, 0), (0, 0, HUGE)]:
            with self.subTest(spot=spot):
                self.assertEqual(ask_last(*wall(2, 3, BOTH), ("flip",) + spot), [-2])

    def test_refused_changes_nothing(self):
        for spot in [(0, 0, 0), (0, 0, 1), (0, 0, 2), (1, 0, 0), (2, 0, 0), (0, 2, 1), (HUGE, 1, 1)]:
            with self.subTest(spot=spot):
                told, before, after = look_around(wall(2, 2, RING + [(0, 0, 1)]), ("flip",) + spot)
                self.assertLess(told[0], 0)
                self.assertEqual(after, before)


class Ties(unittest.TestCase):
    def test_none(self):
        self.assertEqual(ask_last(("begin", 4, 5), ("ties",)), [0])

    def test_in_the_order_in_which_they_were_put(self):
        for ties in [RING, RING[::-1], BOTH, BOTH[::-1], JOINED_RINGS[::-1]]:
            with self.subTest(ties=ties):
                self.assertEqual(ask_last(*wall(4, 4, ties), ("ties",)), in_a_row(ties))

    def test_all_of_five_by_five(self):
        ties = all_spots(5, 5)[::-1]
        self.assertEqual(ask_last(*wall(5, 5, ties), ("ties",)), in_a_row(ties))

    def test_behind_free(self):
        told = ask_behind(wall(2, 2, RING), ("free", 1, 0, 1), ("ties",), ("tie", 1, 0, 1), ("ties",))
        self.assertEqual(told[1], [3, 0, 0, 0, 1, 1, 0, 0, 1, 1])
        self.assertEqual(told[3], [4, 0, 0, 0, 1, 1, 0, 0, 1, 1, 1, 0, 1])

    def test_behind_flip_and_free(self):
        changes = [("flip", 0, 0, 0), ("free", 1, 1, 0), ("tie", 0, 0, 0), ("flip", 0, 1, 1), ("tie", 1, 1, 0)]
        told = ask_behind(wall(2, 2, RING), *changes, ("ties",))
        self.assertEqual(told[-1], in_a_row([(0, 0, 1), (1, 0, 1), (0, 1, 0), (0, 0, 0), (1, 1, 0)]))

    def test_behind_begin(self):
        self.assertEqual(ask_behind(wall(2, 2, RING), ("begin", 2, 2), ("ties",)), [[0], [0]])
        self.assertEqual(ask_behind(wall(1, 1, BOTH), ("begin", 6, 2), ("ties",)), [[-22], [2, 0, 0, 0, 0, 0, 1]])


class State(unittest.TestCase):
    def test_walls(self):
        for rows, columns, ties, told in [
            (1, 1, [], [1, 1, 0, 2]),
            (1, 1, BOTH[:1], [1, 1, 1, 1]),
            (1, 1, BOTH[1:], [1, 1, 1, 1]),
            # One part is one end and one start, and yet it's 0.
            (1, 1, BOTH, [1, 1, 2, 0]),
            (2, 2, RING, [2, 2, 4, 0]),
            (2, 2, RING_WITH_ONE_TURNED, [2, 2, 4, 1]),
            (4, 4, TWO_RINGS, [4, 4, 8, 2]),
            (4, 4, JOINED_RINGS, [4, 4, 9, 1]),
            (4, 4, JOINED_RINGS + [(2, 0, 0)], [4, 4, 10, 0]),
            # More ends than starts, and more starts than ends.
            (1, 3, [(0, 0, 0), (0, 1, 0), (0, 2, 0)], [1, 3, 3, 3]),
            (1, 3, [(0, 0, 1), (0, 1, 1), (0, 2, 1)], [1, 3, 3, 3]),
            (3, 2, [(0, 0, 0), (1, 0, 0), (1, 1, 0)], [3, 2, 3, 3]),
            (5, 4, [], [5, 4, 0, 9]),
        ]:
            with self.subTest(rows=rows, columns=columns, ties=ties):
                self.assertEqual(ask_last(*wall(rows, columns, ties), ("state",)), told)

    def test_rows_ahead_of_columns(self):
        for rows in range(1, 6):
            for columns in range(1, 6):
                told = ask_last(("begin", rows, columns), ("state",))
                self.assertEqual(told, [rows, columns, 0, rows + columns])

    def test_behind_changes(self):
        changes = [("flip", 0, 1, 1), ("tie", 0, 1, 1), ("free", 0, 0, 0), ("begin", 0, 0), ("begin", 3, 1)]
        calls = [call for change in changes for call in (change, ("state",))]
        told = ask_behind(wall(2, 2, RING), *calls)[1::2]
        self.assertEqual(told, [[2, 2, 4, 1], [2, 2, 5, 0], [2, 2, 4, 1], [2, 2, 4, 1], [3, 1, 0, 4]])


def in_a_row(ties):
    """What ties answers of these."""
    return [len(ties)] + [number for tie in ties for number in tie]


if __name__ == "__main__":
    unittest.main()
