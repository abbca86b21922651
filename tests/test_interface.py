"""How calls stand in the list that is handed in, and answers in the list that is given back."""

import unittest

import tiedwall.wall
from tests.asking import EVERY_CALL_BUT_BEGIN, HUGE, JOINED_RINGS, LOOK, NUMBERS, RING
from tests.asking import ask, first_difference, wall, written
from tiedwall.wall import answers


class NotToBeChanged(list):
    """A list that tells on whoever changes it, were it for a while only."""

    def refuse(self, *given, **named):
        raise AssertionError("what is handed in was changed")

    __setitem__ = __delitem__ = __iadd__ = __imul__ = refuse
    append = extend = insert = pop = remove = clear = sort = reverse = refuse


class Lists(unittest.TestCase):
    def test_one_call(self):
        self.assertEqual(answers([0, 1, 1]), [1, 0])
        self.assertEqual(answers([0, 6, 1]), [1, -22])
        self.assertEqual(answers([3]), [1, -11])

    def test_each_number_of_a_call(self):
        for call, told in [
            ([1, 0, 1, 0], [1, 4]),
            ([2, 0, 0, 0], [1, 4]),
            ([3], [2, 0, 4]),
            ([4, 0], [3, 2, 0, 2]),
            ([5, 0], [2, 1, 0]),
            ([6], [5, 4, 0, 1, 2, 3]),
            ([7], [8, 3, 3, 1, 2, 3, 0, 1, 3]),
            ([8, 0, 0, 0], [1, 0]),
            ([9], [9, 7, 0, 1, 1, 1, 1, 1, 1, 1]),
            ([10, 0, 0, 1], [5, 4, 0, 0, 1, 0]),
            ([11, 4, 1, 0, 0, 0], [2, 0, 2]),
            ([12, 0, 0, 0], [1, 0]),
            ([13], [1, 0]),
            ([14], [10, 3, 0, 1, 1, 1, 0, 1, 1, 1, 0]),
            ([15, 0, 0, 1], [2, 3, 1]),
            ([16, 0, 0, 0], [2, 4, 1]),
            ([17, 0, 0], [2, 0, 0]),
            ([18, 0, 0, 0], [1, 4]),
            ([19], [4, 1, 0, 0, 0]),
            ([20], [4, 2, 2, 1, 3]),
        ]:
            with self.subTest(call=call):
                # A wall of 2 by 2 with one tie, from row 0 to column 0.
                self.assertEqual(answers([0, 2, 2, 1, 0, 0, 0] + call), [1, 0, 1, 4] + told)

    def test_calls_one_behind_another(self):
        line = [
            ([0, 1, 1], [1, 0]),
            ([9], [3, 2, 1, 1]),
            ([1, 0, 0, 0], [1, 2]),
            ([4, 0], [3, 2, 0, 1]),
            ([10, 0, 0, 0], [1, -33]),
            ([6], [3, 2, 0, 1]),
            ([4, 9], [1, -2]),
            ([3], [2, 0, 2]),
            ([2, 0, 0, 0], [1, 2]),
            ([7], [6, 2, 2, 0, 1, 0, 1]),
            ([14], [7, 2, 0, 0, 0, 0, 0, 1]),
            ([11, 0], [1, -22]),
            ([11, 3, 11, 2, 0], [1, -22]),
            ([11, 2, 7, 7], [2, 1, 0]),
            ([1, 0, 0, 1], [1, 2]),
            ([19], [4, 1, 0, 0, 1]),
            ([18, 0, 0, 1], [1, 2]),
            ([19], [4, 1, 0, 0, 0]),
            ([12, 0, 0, 1], [1, -6]),
            ([12, 0, 0, 0], [1, 0]),
            ([13], [1, 0]),
            ([15, 0, 0, 1], [2, 1, 1]),
            ([16, 0, 0, 0], [2, 2, 1]),
            ([17, 0, 0], [2, 0, 0]),
            ([17, 0, 1], [1, -2]),
            ([20], [4, 1, 1, 1, 1]),
            ([0, 5, 2], [1, 0]),
            ([14], [1, -28]),
        ]
        calls = [number for call, told in line for number in call]
        self.assertEqual(answers(calls), [number for call, told in line for number in told])

    def test_every_call_is_tried(self):
        names = ["begin"] + [call[0] for call in EVERY_CALL_BUT_BEGIN]
        self.assertEqual([NUMBERS[name] for name in names], list(range(21)))

    def test_a_refused_call_is_passed_with_all_its_numbers(self):
        for call in EVERY_CALL_BUT_BEGIN:
            with self.subTest(call=call):
                self.assertEqual(ask(call, ("begin", 1, 1), ("firm",)), [[-11], [0], [0, 2]])
        self.assertEqual(ask(("begin", 0, 0), ("begin", 1, 1), ("tie", 3, 3, 3), ("reach", 1))[2:], [[-2], [1, 1]])

    def test_four_hundred_calls(self):
        calls = [("begin", 5, 5)]
        while len(calls) < 400:
            calls += [("tie", 4, 4, 0), ("reach", 4), ("free", 4, 4, 0)]
        self.assertEqual(len(calls), 400)
        self.assertIsNone(first_difference(ask(*calls), [[0]] + [[10], [2, 4, 9], [10]] * 133))

    def test_as_many_numbers_as_there_may_be(self):
        calls = written([("turn", [HUGE] * 12)] * 400)
        self.assertEqual(len(calls), 5600)
        self.assertIsNone(first_difference(answers(calls), [1, -11] * 400))
        calls = written([("begin", 5, 5)] + [("turn", [HUGE] * 12), ("turn", [HUGE] * 10), ("turn", [])] * 133)
        self.assertIsNone(first_difference(answers(calls), [1, 0] + [1, -22, 2, 1, 0, 1, -22] * 133))

    def test_long_answers(self):
        spots = [(row, column, kind) for row in range(5) for column in range(5) for kind in (0, 1)]
        calls = wall(5, 5, spots) + [("all_leans",)] * 349
        self.assertIsNone(first_difference(ask(*calls)[51:], [[0] * 51] * 349))


class Values(unittest.TestCase):
    def test_a_list_of_whole_numbers(self):
        asked = LOOK + [("lean", 2, 0, 0), ("leans", 2, 0, 0), ("leans", 0, 0, 0), ("reach", 1), ("part", 1)]
        asked += [("turn", [1] * 8), ("turn", [1, 0] * 4), ("spare", 0, 0, 0), ("would", 0, 0, 1), ("falls", 0, 0, 0)]
        asked += [("stiff", 0, 0), ("stiff", 0, 3), ("flip", 0, 0, 0), ("tie", 0, 0, 0), ("spare", 0, 0, 1)]
        for calls in [wall(4, 4, JOINED_RINGS) + asked, wall(2, 2, RING) + LOOK, wall(2, 2, RING[:3]) + LOOK]:
            told = answers(written(calls))
            self.assertIs(type(told), list)
            for number in told:
                self.assertIs(type(number), int)

    def test_what_is_handed_in_stays(self):
        calls = written(wall(2, 2, RING) + EVERY_CALL_BUT_BEGIN + LOOK)
        before = list(calls)
        answers(calls)
        self.assertEqual(calls, before)

    def test_what_is_handed_in_is_not_changed_for_a_while_either(self):
        calls = written(wall(2, 2, RING) + EVERY_CALL_BUT_BEGIN + LOOK)
        self.assertEqual(answers(NotToBeChanged(calls)), answers(calls))

    def test_what_is_given_back_is_another_list_each_time(self):
        calls = written([("begin", 1, 1), ("tie", 0, 0, 0), ("parts",)])
        first = answers(calls)
        first.clear()
        self.assertEqual(answers(calls), [1, 0, 1, 2, 3, 2, 0, 1])

    def test_the_same_list_twice(self):
        for calls in [wall(4, 4, JOINED_RINGS) + LOOK, wall(2, 2, RING) + EVERY_CALL_BUT_BEGIN + LOOK]:
            self.assertEqual(answers(written(calls)), answers(written(calls)))
            twice = written(calls)
            self.assertEqual(answers(twice), answers(twice))

    def test_nothing_is_kept(self):
        answers(written(wall(2, 2, RING)))
        for call in EVERY_CALL_BUT_BEGIN:
            with self.subTest(call=call):
                self.assertEqual(answers(written([call])), [1, -11])
        self.assertEqual(ask(("begin", 2, 2), ("tie", 0, 0, 0)), [[0], [4]])

    def test_it_is_there_by_its_name(self):
        self.assertEqual(tiedwall.wall.answers([0, 5, 5]), [1, 0])
        self.assertEqual(tiedwall.wall.answers(calls=[0, 5, 5]), [1, 0])


if __name__ == "__main__":
    unittest.main()
