"""What holds over the whole program, a to f, told through the calls alone."""

import itertools
import unittest

from tests.asking import EVERY_CALL_BUT_BEGIN, HUGE, RING
from tests.asking import all_spots, ask_behind, every_wall, look_around, threes, wall
from tests.dice import Dice

SMALL_SIZES = [(1, 1), (1, 2), (2, 1), (2, 2)]


def small_walls():
    for rows, columns in SMALL_SIZES:
        for ties in every_wall(rows, columns):
            yield rows, columns, ties


def thrown_walls(seed, many):
    """Walls of all sizes, with few ties and with many."""
    dice = Dice(seed)
    for place in range(many):
        rows, columns, bound = 1 + dice.below(5), 1 + dice.below(5), 2 + dice.below(4)
        yield rows, columns, [spot for spot in all_spots(rows, columns) if dice.below(bound) == 0]


def passage(rows, spot):
    row, column, kind = spot
    return (row, rows + column) if kind == 0 else (rows + column, row)


class Holds(unittest.TestCase):
    def test_a_and_b_firm_just_if_it_can_not_lean(self):
        for rows, columns, ties in small_walls():
            with self.subTest(rows=rows, columns=columns, ties=ties):
                made = wall(rows, columns, ties)
                ways = [list(way) for way in itertools.product((0, 1, 2), repeat=rows + columns)]
                told = ask_behind(made, ("firm",), ("all_leans",), *[("turn", way) for way in ways])
                kept = [way for way, (keeps, uneven) in zip(ways, told[2:]) if keeps]
                alike = [way for way, (keeps, uneven) in zip(ways, told[2:]) if keeps and uneven == 0]
                self.assertTrue(all(len(set(way)) == 1 for way in alike))
                self.assertEqual(told[0][0], int(kept == alike))
                self.assertEqual(told[1][0] == 0, kept == alike)
                for spot, leans in zip(all_spots(rows, columns), told[1][1:]):
                    more, less = passage(rows, spot)
                    self.assertEqual(leans, int(any(way[more] > way[less] for way in kept)))

    def test_b_one_is_told(self):
        for rows, columns, ties in thrown_walls(1, 80):
            made = wall(rows, columns, ties)
            spots = all_spots(rows, columns)
            told = ask_behind(made, ("all_leans",), *[("lean",) + spot for spot in spots])
            for spot, leans, way in zip(spots, told[0][1:], told[1:]):
                self.assertEqual(way != [-33], leans == 1)
                if leans:
                    more, less = passage(rows, spot)
                    self.assertGreater(way[1:][more], way[1:][less])
                    self.assertEqual(ask_behind(made, ("turn", way[1:]))[0][0], 1)

    def test_c_a_spare_tie_taken_away(self):
        for rows, columns, ties in thrown_walls(2, 80):
            made = wall(rows, columns, ties)
            spares = threes(ask_behind(made, ("spares",))[0][1:])
            for tie in ties:
                asked = [("spare",) + tie, ("falls",) + tie, ("all_leans",), ("free",) + tie, ("all_leans",)]
                told = ask_behind(made, *asked, ("leans",) + tie)
                self.assertEqual(told[0], [int(tie in spares)])
                self.assertEqual(told[1][1] == 0, tie in spares)
                self.assertEqual(told[2] == told[4], tie in spares)
                self.assertEqual(told[5], [int(tie not in spares)])

    def test_d_firm_each_strip_has_a_tie_from_it_and_one_to_it(self):
        firm = 0
        for rows, columns, ties in itertools.chain(small_walls(), thrown_walls(3, 200)):
            told = ask_behind(wall(rows, columns, ties), ("firm",), ("state",))
            if told[0][0]:
                firm += 1
                self.assertGreaterEqual(told[1][2], rows + columns)
                steps = [passage(rows, tie) for tie in ties]
                self.assertEqual({held for held, holder in steps}, set(range(rows + columns)))
                self.assertEqual({holder for held, holder in steps}, set(range(rows + columns)))
        self.assertGreater(firm, 20)

    def test_e_never_fewer_than_ends_nor_than_starts(self):
        for rows, columns, ties in itertools.chain(small_walls(), thrown_walls(4, 200)):
            firm, ends, state, put = ask_behind(
                wall(rows, columns, ties), ("firm",), ("ends",), ("state",), ("put",)
            )
            self.assertEqual(state[3], 0 if firm[0] else max(ends[:2]))
            if put[0] >= 0:
                self.assertEqual(put[0] == 0, firm[0] == 1)
                self.assertGreaterEqual(put[0], state[3])

    def test_e_both_ties_of_a_square_are_as_a_bar(self):
        for rows, columns, ties in thrown_walls(5, 60):
            made = wall(rows, columns, ties)
            for row, column in sorted({tie[:2] for tie in ties}):
                told = ask_behind(made, ("stiff", row, column), ("leans", row, column, 0), ("leans", row, column, 1))
                if {(row, column, 0), (row, column, 1)} <= set(ties):
                    self.assertEqual(told, [[1, 1], [0], [0]])
                else:
                    self.assertEqual(told[0], [int(told[1:] == [[0], [0]]), 0])

    def test_f_what_is_refused_changes_nothing(self):
        both = RING + [(0, 0, 1)]
        for call, refusal in [
            (("begin", 0, 1), -22),
            (("begin", 3, 6), -22),
            (("tie", 0, 0, 0), -17),
            (("free", 0, 1, 0), -6),
            (("lean", 0, 0, 0), -33),
            (("turn", [0, 1, 2]), -22),
            (("turn", []), -22),
            (("spare", 0, 1, 0), -6),
            (("would", 0, 0, 1), -17),
            (("falls", 1, 1, 1), -6),
            (("flip", 1, 1, 1), -6),
            (("flip", 0, 0, 0), -17),
        ]:
            with self.subTest(call=call):
                told, before, after = look_around(wall(2, 2, both), call)
                self.assertEqual(told, [refusal])
                self.assertEqual(after, before)

    def test_f_none_such_changes_nothing_and_comes_first(self):
        for name in ["tie", "free", "leans", "lean", "spare", "would", "falls", "flip"]:
            for spot in [(2, 0, 0), (0, 2, 1), (1, 1, 2), (HUGE, 0, 0), (0, HUGE, 1), (1, 1, HUGE)]:
                with self.subTest(name=name, spot=spot):
                    told, before, after = look_around(wall(2, 2, all_spots(2, 2)), (name,) + spot)
                    self.assertEqual(told, [-2])
                    self.assertEqual(after, before)

    def test_f_before_a_begin(self):
        for call in EVERY_CALL_BUT_BEGIN:
            with self.subTest(call=call):
                told = ask_behind([], call, ("begin", 1, 1), ("ties",), ("state",), call)
                self.assertEqual(told[:4], [[-11], [0], [0], [1, 1, 0, 2]])
                self.assertNotEqual(told[4], [-11])


if __name__ == "__main__":
    unittest.main()
