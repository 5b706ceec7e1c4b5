"""How calls are written down, how answers are given back, and what is left alone."""

import unittest

from foldgrowth.pieces import answers
from support import HIGHEST, begin, has, length, put, row, run, state, turn, ways
from support import kind, loop, loops, power, room, shoe, steps, way


class Form(unittest.TestCase):
    def test_one_call(self):
        self.assertEqual(answers([0, 3]), [1, 0])
        self.assertEqual(answers([0, 0]), [1, -22])
        self.assertEqual(answers([4]), [1, -11])

    def test_answers_stand_one_behind_another(self):
        calls = [0, 2, 4, 1, 0, 2, 2, 3, 1, 2, 0, 3, 4, 5, 3, 6, 2, 7, 0, 1, 1, 7, 2, 0, 0]
        self.assertEqual(answers(calls), [
            1, 0,
            4, 2, 0, 1, 2,
            1, 0,
            1, 0,
            1, 0,
            4, 2, 2, 0, 1,
            1, 1,
            1, 5,
            1, 1,
            1, -2,
        ])

    def test_each_count_is_that_of_the_call_alone(self):
        self.assertEqual(
            answers([0, 1, 4, 0, 6, 4, 2, 0, 4]),
            [1, 0, 3, 1, 0, 1, 1, 0, 8, 6, 0, 1, 2, 3, 4, 5, 6, 1, -22, 8, 6, 0, 1, 2, 3, 4, 5, 6],
        )

    def test_whole_numbers_in_a_list(self):
        told = answers([0, 1, 5, 1, 5, 2, 4, 6, 0])
        self.assertIs(type(told), list)
        for number in told:
            self.assertIs(type(number), int)

    def test_four_hundred_calls(self):
        calls = [begin(6)] + [put(k % 7, (k * k) % 7) for k in range(398)] + [state()]
        told = run(*calls)
        self.assertEqual(len(told), 400)
        self.assertEqual(told[-1], [6, 0, 1, 4, 2, 2, 4, 1])

    def test_the_longest_rows(self):
        told = run(begin(6), *[row(*[HIGHEST] * 10) for k in range(399)])
        self.assertEqual(told, [[0]] + [[-22]] * 399)

    def test_answers_on_ways_and_growth(self):
        calls = [0, 2, 2, 3, 1, 2, 0, 8, 1, 1, 2, 1, 9, 3, 10, 11, 12, 13, 14, 1, 15, 0, 8, 0, 0, 1, 0, 14, 2]
        self.assertEqual(answers(calls), [
            1, 0,
            1, 0,
            4, 3, 1, 1, 1,
            1, 4,
            1, 1073741823,
            1, 2,
            1, -33,
            8, 2, 1, 1, 0, 1, 1, 1, 1,
            3, 2, 0, 1,
            4, 2, 0, 1, 0,
            1, -33,
            1, -2,
        ])

    def test_each_number_is_a_plain_one(self):
        for points in ([1, 2, 0], [0, 1, 2], [0, 0, 0]):
            told = answers([0, 2, 2, 3, *points, 8, 1, 1, 2, 0, 9, 3, 10, 11, 12, 13, 14, 1, 15, 0])
            for number in told:
                self.assertIs(type(number), int)


class LeftAlone(unittest.TestCase):
    # Each call, answered and refused.
    CALLS = [
        4, 0, 2, 2, 3, 1, 2, 0, 1, 0, 0, 3, 4, 2, 2, 9, 9, 2, 3, 1, 2, 0, 5, 3, 5, 9, 6, 30, 6, 31, 7, 0, 0, 30,
        8, 1, 1, 8, 33, 8, 1, 1, 8, 34, 9, 30, 9, 31, 10, 11, 12, 13, 14, 1, 14, 2, 15, 0, 15, 2, 0, 9, 0, 1, 12,
    ]

    def test_what_is_handed_in_stays_as_it_was(self):
        calls = list(self.CALLS)
        answers(calls)
        self.assertEqual(calls, self.CALLS)

    def test_a_second_time_gives_the_same(self):
        calls = list(self.CALLS)
        first = answers(calls)
        kept = list(first)
        first.append(7)
        self.assertEqual(answers(calls), kept)
        self.assertEqual(answers([4]), [1, -11])


class NotBegun(unittest.TestCase):
    OTHERS = [
        put(0, 0), put(9, 9), row(), row(0, 1), row(9), turn(), state(),
        has(1), has(0), has(7), length(0), length(31), ways(0, 0, 0), ways(9, 9, 31),
        way(0, 0, 0, 0), way(9, 9, 9, 9), way(0, 9, 8, 0), way(0, 0, 9, 0), way(0, 0, 1, HIGHEST),
        loops(1), loops(0), loops(31), steps(), kind(), power(), shoe(),
        room(0), room(9), room(HIGHEST), loop(0), loop(9), loop(HIGHEST),
    ]

    def test_each_other_call(self):
        for call in self.OTHERS:
            self.assertEqual(run(call), [[-11]], call)

    def test_all_of_them_in_a_row(self):
        self.assertEqual(run(*self.OTHERS), [[-11]] * len(self.OTHERS))

    def test_behind_a_begin_that_was_refused(self):
        for n in (0, 7, HIGHEST):
            self.assertEqual(run(begin(n), *self.OTHERS), [[-22]] + [[-11]] * len(self.OTHERS))

    def test_a_begin_behind_them(self):
        told = run(*self.OTHERS, begin(1), state())
        self.assertEqual(told[-2:], [[0], [1, 0, 1]])


if __name__ == "__main__":
    unittest.main()
