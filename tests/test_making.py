"""Point 1: begin, tie, free."""

import unittest

from tests.asking import EVERY_CALL_BUT_BEGIN, HUGE, JOINED_RINGS, LOOK, RING, TWO_RINGS, ask, ask_last, wall


class Begin(unittest.TestCase):
    def test_every_size_there_is(self):
        for rows in range(1, 6):
            for columns in range(1, 6):
                with self.subTest(rows=rows, columns=columns):
                    strips = rows + columns
                    self.assertEqual(
                        ask(("begin", rows, columns), ("parts",), ("firm",)),
                        [[0], [strips] + list(range(strips)), [0, strips]],
                    )

    def test_sizes_out_of_range(self):
        for rows, columns in [(0, 1), (1, 0), (0, 0), (6, 1), (1, 6), (6, 6), (HUGE, 5), (5, HUGE), (HUGE, HUGE)]:
            with self.subTest(rows=rows, columns=columns):
                self.assertEqual(ask(("begin", rows, columns)), [[-22]])

    def test_rows_are_told_ahead_of_columns(self):
        # Of 2 rows and 3 columns: there's a row 1 and a column 2, no row 2 and no column 3.
        self.assertEqual(
            ask(("begin", 2, 3), ("tie", 1, 2, 0), ("tie", 2, 1, 0), ("tie", 1, 3, 0)), [[0], [5], [-2], [-2]]
        )

    def test_all_others_before_it(self):
        for call in EVERY_CALL_BUT_BEGIN:
            with self.subTest(call=call):
                self.assertEqual(ask(call), [[-11]])

    def test_all_others_after_a_refused_one(self):
        for call in EVERY_CALL_BUT_BEGIN:
            with self.subTest(call=call):
                self.assertEqual(ask(("begin", 6, 5), call, ("begin", 1, 0), call), [[-22], [-11], [-22], [-11]])

    def test_not_begun_comes_ahead_of_none_such(self):
        for call in [("tie", 9, 9, 9), ("free", 9, 9, 9), ("reach", 99), ("part", HUGE), ("leans", 0, 0, 2)]:
            with self.subTest(call=call):
                self.assertEqual(ask(call), [[-11]])

    def test_what_came_before_it_is_not_kept(self):
        self.assertEqual(ask(("tie", 0, 0, 0), ("begin", 1, 1), ("tie", 0, 0, 0)), [[-11], [0], [2]])

    def test_another_takes_all_ties_away(self):
        told = ask(*wall(2, 2, RING), ("firm",), ("begin", 2, 2), ("firm",), ("free", 0, 0, 0), ("tie", 0, 0, 0))
        self.assertEqual(told[5:], [[1, 1], [0], [0, 4], [-6], [4]])

    def test_another_of_another_size(self):
        told = ask(("begin", 1, 1), ("reach", 2), ("begin", 5, 4), ("reach", 8), ("reach", 9), ("begin", 1, 2))
        self.assertEqual(told, [[0], [-2], [0], [1, 8], [-2], [0]])
        self.assertEqual(ask(("begin", 5, 5), ("begin", 1, 2), ("reach", 3), ("tie", 1, 0, 0))[2:], [[-2], [-2]])

    def test_a_refused_one_in_the_middle_changes_nothing(self):
        for sizes in [(0, 3), (3, 0), (6, 1), (1, 6), (HUGE, HUGE)]:
            with self.subTest(sizes=sizes):
                told = ask(*wall(4, 4, JOINED_RINGS), *LOOK, ("begin",) + sizes, *LOOK, ("tie", 0, 2, 0))
                self.assertEqual(told[14], [-22])
                self.assertEqual(told[15:19], told[10:14])
                self.assertEqual(told[19], [-17])


class Tie(unittest.TestCase):
    def test_one_square_with_both(self):
        self.assertEqual(ask(("begin", 1, 1), ("tie", 0, 0, 0), ("tie", 0, 0, 1)), [[0], [2], [1]])
        self.assertEqual(ask(("begin", 1, 1), ("tie", 0, 0, 1), ("tie", 0, 0, 0)), [[0], [2], [1]])

    def test_a_ring_closes_with_its_last(self):
        self.assertEqual(ask(*wall(2, 2, RING)), [[0], [4], [4], [4], [1]])

    def test_two_rings(self):
        self.assertEqual(ask(*wall(4, 4, TWO_RINGS)), [[0], [8], [8], [8], [5], [5], [5], [5], [2]])

    def test_a_tie_between_two_parts_and_one_back(self):
        self.assertEqual(ask(*wall(4, 4, JOINED_RINGS), ("tie", 3, 1, 1))[-2:], [[2], [2]])
        self.assertEqual(ask(*wall(4, 4, JOINED_RINGS), ("tie", 3, 1, 0))[-2:], [[2], [1]])

    def test_five_by_five_all_in_both_kinds(self):
        spots = [(row, column, kind) for kind in (0, 1) for row in range(5) for column in range(5)]
        told = ask(*wall(5, 5, spots))
        self.assertEqual(told[1:26], [[10]] * 25)
        # With all of kind 0 there, each of kind 1 in row 0 brings another column to hang together with
        # that row; and of each later row the first of kind 1 brings that row in, the others nothing.
        self.assertEqual(told[26:], [[9], [8], [7], [6], [5]] + [[4]] * 5 + [[3]] * 5 + [[2]] * 5 + [[1]] * 5)

    def test_none_such(self):
        for spot in [(2, 0, 0), (0, 3, 0), (0, 0, 2), (HUGE, 0, 0), (0, HUGE, 0), (0, 0, HUGE), (HUGE, HUGE, HUGE)]:
            with self.subTest(spot=spot):
                self.assertEqual(ask(("begin", 2, 3), ("tie",) + spot), [[0], [-2]])

    def test_there_already(self):
        told = ask(("begin", 2, 2), ("tie", 1, 0, 1), ("tie", 1, 0, 1), ("tie", 1, 0, 0), ("tie", 1, 0, 1))
        self.assertEqual(told, [[0], [4], [-17], [3], [-17]])

    def test_one_put_twice_is_gone_after_one_free(self):
        told = ask(("begin", 1, 1), ("tie", 0, 0, 0), ("tie", 0, 0, 0), ("free", 0, 0, 0), ("leans", 0, 0, 0))
        self.assertEqual(told, [[0], [2], [-17], [2], [1]])

    def test_refused_changes_nothing(self):
        for spot in [(0, 0, 0), (0, 0, 2), (2, 0, 0), (0, 2, 1), (HUGE, 1, 1)]:
            with self.subTest(spot=spot):
                told = ask(*wall(2, 2, RING[:3]), *LOOK, ("tie",) + spot, *LOOK)
                self.assertLess(told[8][0], 0)
                self.assertEqual(told[9:], told[4:8])


class Free(unittest.TestCase):
    def test_a_ring_falls_apart(self):
        for spot in RING:
            with self.subTest(spot=spot):
                self.assertEqual(ask_last(*wall(2, 2, RING), ("free",) + spot), [4])

    def test_one_of_both(self):
        told = ask(*wall(1, 1, [(0, 0, 0), (0, 0, 1)]), ("free", 0, 0, 0), ("leans", 0, 0, 0), ("leans", 0, 0, 1))
        self.assertEqual(told[3:], [[2], [1], [0]])
        told = ask(*wall(1, 1, [(0, 0, 0), (0, 0, 1)]), ("free", 0, 0, 1), ("leans", 0, 0, 0), ("leans", 0, 0, 1))
        self.assertEqual(told[3:], [[2], [0], [1]])

    def test_one_that_nothing_hangs_on(self):
        self.assertEqual(ask(*wall(4, 4, JOINED_RINGS), ("free", 0, 2, 0), ("reach", 0))[-2:], [[2], [4, 0, 1, 4, 5]])

    def test_and_put_again(self):
        told = ask(*wall(2, 2, RING), ("free", 1, 1, 0), ("tie", 1, 1, 0), ("free", 1, 1, 0), ("tie", 1, 1, 0))
        self.assertEqual(told[4:], [[1], [4], [1], [4], [1]])

    def test_not_there(self):
        told = ask(("begin", 2, 2), ("free", 0, 0, 0), ("tie", 0, 0, 0), ("free", 0, 0, 1), ("free", 0, 1, 0))
        self.assertEqual(told, [[0], [-6], [4], [-6], [-6]])
        told = ask(*wall(2, 2, [(0, 1, 1)]), ("free", 1, 0, 1), ("free", 0, 1, 1), ("free", 0, 1, 1))
        self.assertEqual(told[2:], [[-6], [4], [-6]])

    def test_none_such_comes_ahead_of_not_there(self):
        for spot in [(2, 0, 0), (0, 3, 0), (0, 0, 2), (HUGE, 0, 0), (0, HUGE, 0), (0, 0, HUGE)]:
            with self.subTest(spot=spot):
                self.assertEqual(ask(("begin", 2, 3), ("free",) + spot), [[0], [-2]])

    def test_refused_changes_nothing(self):
        for spot in [(0, 0, 1), (1, 0, 0), (0, 0, 2), (2, 0, 0), (0, 2, 1), (HUGE, 1, 1)]:
            with self.subTest(spot=spot):
                told = ask(*wall(2, 2, RING), *LOOK, ("free",) + spot, *LOOK)
                self.assertLess(told[9][0], 0)
                self.assertEqual(told[10:], told[5:9])


if __name__ == "__main__":
    unittest.main()
