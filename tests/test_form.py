"""How calls are written down, how answers are given back, and what is left alone."""

import unittest

from foldgrowth.pieces import answers
from support import HIGHEST, begin, has, length, put, row, run, state, turn, ways
from support import kind, loop, loops, power, room, shoe, steps, way


class Form(unittest.TestCase):
    def test_one_call(self):
        self.assertEqual(answers([0, 3]), [1, 0])
        self.assertEqual(answers([0, 0]), [1, -22])
        self.assertEqual(answers([4]), [1, -11])

    def test_answers_stand_one_behind_another(self):
        calls = [0, 2, 4, 1, 0, 2, 2, 3, 1, 2, 0, 3, 4, 5, 3, 6, 2, 7, 0, 1, 1, 7, 2, 0, 0]
        self.assertEqual(answers(calls), [
            1, 0,
            4, 2, 0, 1, 2,
            1, 0,
            1, 0,
            1, 0,
            4, 2, 2, 0, 1,
            1, 1,
            1, 5,
            1, 1,
            1, -2,
        ])

    def test_each_count_is_that_of_the_call_alone(self):
        self.assertEqual(
            answers([0, 1, 4, 0, 6, 4, 2, 0, 4]),
            [1, 0, 3, 1, 0, 1, 1, 0, 8, 6, 0, 1, 2, 3, 4, 5, 6, 1, -22, 8, 6, 0, 1, 2, 3, 4, 5, 6],
        )

    def test_whole_numbers_in_a_list(self):
        told = answers([0, 1, 5, 1, 5, 2, 4, 6, 0])
        self.assertIs(type(told), list)
        for number in told:
            self.assertIs(type(number), int)

    def test_four_hundred_calls(self):
        calls = [begin(6)] + [put(k % 7, (k * k) % 7) for k in range(398)] + [state()]
        told = run(*calls)
        self.assertEqual(len(told), 400)
        self.assertEqual(told[-1], [6, 0, 1, 4, 2, 2, 4, 1])

    def test_the_longest_rows(self):
        told = run(begin(6), *[row(*[HIGHEST] * 10) for k in range(399)])
        self.assertEqual(told, [[0]] + [[-22]] * 399)

    def test_what_is_handed_in_stays_as_it_was(self):
        calls = [0, 2, 2, 3, 1, 2, 0, 1, 0, 0, 3, 4, 2, 2, 9, 9, 5, 2, 6, 30, 7, 0, 0, 30]
        before = list(calls)
        answers(calls)
        self.assertEqual(calls, before)

    def test_a_second_time_gives_the_same(self):
        calls = [4, 0, 2, 2, 3, 1, 2, 0, 1, 0, 0, 3, 4, 5, 3, 6, 30, 7, 0, 0, 30]
        first = answers(calls)
        kept = list(first)
        first.append(7)
        self.assertEqual(answers(calls), kept)
        self.assertEqual(answers([4]), [1, -11])


class NotBegun(unittest.TestCase):
    OTHERS = [
        put(0, 0), put(9, 9), row(), row(0, 1), row(9), turn(), state(),
        has(1), has(0), has(7), length(0), length(31), ways(0, 0, 0), ways(9, 9, 31),
        way(0, 0, 0, 0), way(9, 9, 9, 9), loops(1), loops(0), steps(), kind(), power(), shoe(),
        room(0), room(9), loop(0), loop(9),
    ]

    def test_each_other_call(self):
        for call in self.OTHERS:
            self.assertEqual(run(call), [[-11]], call)

    def test_all_of_them_in_a_row(self):
        self.assertEqual(run(*self.OTHERS), [[-11]] * len(self.OTHERS))

    def test_behind_a_begin_that_was_refused(self):
        for n in (0, 7, HIGHEST):
            self.assertEqual(run(begin(n), *self.OTHERS), [[-22]] + [[-11]] * len(self.OTHERS))

    def test_a_begin_behind_them(self):
        told = run(*self.OTHERS, begin(1), state())
        self.assertEqual(told[-2:], [[0], [1, 0, 1]])


if __name__ == "__main__":
    unittest.main()
