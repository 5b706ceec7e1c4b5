"""loops and steps."""

import itertools
import unittest

from search import each_line, loops_from, some_lines
from support import FULL, HIGHEST, ask, begin, loops, run, state, steps, turn, ways

ALL = sum(2 ** (k - 1) for k in range(1, 31))
EVEN = sum(2 ** (k - 1) for k in range(2, 31, 2))

# Lines on which no way comes back.
WITHOUT = ((0, 0), (1, 1), (0, 0, 1), (1, 1, 0), (0, 0, 1, 2), (3, 1, 1, 1, 0), (0, 0, 1, 2, 3, 4, 5), (2,) * 7)


class Loops(unittest.TestCase):
    def test_refused(self):
        for k in (0, 31, 32, HIGHEST):
            self.assertEqual(ask((1, 2, 0), loops(k), state()), [[-22], [2, 1, 2, 0]])

    def test_one_and_thirty_steps(self):
        self.assertEqual(ask((1, 2, 0), *[loops(k) for k in range(1, 8)], loops(30)),
                         [[1], [3], [4], [7], [11], [18], [29], [1860498]])

    def test_a_line_without_a_loop(self):
        for points in WITHOUT:
            self.assertEqual(ask(points, *[loops(k) for k in range(1, 31)]), [[0]] * 30, points)

    def test_each_point_onto_itself(self):
        for n in range(1, 7):
            self.assertEqual(run(begin(n), loops(1), loops(2), loops(30))[1:], [[n]] * 3)

    def test_one_loop_counts_for_each_piece_of_it(self):
        self.assertEqual(ask((2, 1, 0), loops(1), loops(2), loops(3), loops(4), loops(30)), [[0], [2], [0], [2], [2]])

    def test_more_than_twenty_digits(self):
        told = ask(FULL, loops(1), loops(29), loops(30))
        self.assertEqual(told, [[6], [6 ** 29], [6 ** 30]])
        self.assertEqual(told[2], [221073919720733357899776])

    def test_the_sum_of_the_ways_from_each_piece_to_itself(self):
        for points in itertools.islice(some_lines(), 0, None, 3):
            pieces = range(len(points) - 1)
            for k in (1, 2, 7, 30):
                told = ask(points, loops(k), *[ways(i, i, k) for i in pieces])
                self.assertEqual(told[0][0], sum(answer[0] for answer in told[1:]), (points, k))

    def test_each_loop_once(self):
        for points in each_line(3):
            for k in range(1, 5):
                count = sum(len(loops_from(points, i, k)) for i in range(3))
                self.assertEqual(ask(points, loops(k)), [[count]], (points, k))

    def test_turned_about(self):
        for points in some_lines():
            told = ask(points, loops(1), loops(6), loops(29), turn(), loops(1), loops(6), loops(29))
            self.assertEqual(told[:3], told[4:])


class Steps(unittest.TestCase):
    def test_a_line_without_a_loop(self):
        for points in WITHOUT:
            self.assertEqual(ask(points, steps()), [[0]])

    def test_each_point_onto_itself(self):
        for n in range(1, 7):
            self.assertEqual(run(begin(n), steps())[1:], [[1073741823]])
        self.assertEqual(ALL, 1073741823)

    def test_one_piece(self):
        self.assertEqual([ask(points, steps()) for points in ((0, 1), (1, 0), (0, 0), (1, 1))],
                         [[[ALL]], [[ALL]], [[0]], [[0]]])

    def test_loops_of_two_steps_alone(self):
        # The place that stays is a point here: the pieces beside it change places.
        for points in ((2, 1, 0), (2, 1, 0, 0), (6, 5, 4, 3, 2, 1, 0), (1, 2, 4, 3, 2, 0)):
            self.assertEqual(ask(points, steps()), [[EVEN]], points)

    def test_loops_of_different_steps(self):
        # Of 2 and of 3, not of 1: whoever has both has all above.
        self.assertEqual(ask((1, 3, 2, 0), steps()), [[ALL - 1]])
        # Of 2 and of 5, not of 1 and 3.
        self.assertEqual(ask((2, 5, 4, 3, 1, 0), steps()), [[ALL - 1 - 4]])
        # Of 1 and of 2, and of 1 alone.
        self.assertEqual(ask((3, 2, 1, 0), steps()), [[ALL]])
        self.assertEqual(ask((0, 2, 2), steps()), [[ALL]])

    def test_loops_of_three_steps_bring_others(self):
        # No line has loops of 3 steps alone: a round of 3 brings rounds of any.
        for points in some_lines():
            bits = ask(points, steps())[0][0]
            if bits & 4:
                self.assertIn(bits, (ALL, ALL - 1), points)

    def test_steps_and_loops_agree(self):
        for points in itertools.islice(some_lines(), 0, None, 5):
            told = ask(points, steps(), *[loops(k) for k in range(1, 31)])
            expected = sum(2 ** (k - 1) for k in range(1, 31) if told[k][0] > 0)
            self.assertEqual(told[0], [expected], points)

    def test_asking_changes_nothing(self):
        self.assertEqual(ask((1, 3, 2, 0), steps(), loops(3), steps(), state()),
                         [[ALL - 1], [3], [ALL - 1], [3, 1, 3, 2, 0]])


if __name__ == "__main__":
    unittest.main()
