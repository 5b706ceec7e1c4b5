"""begin, set, row, turn and state."""

import itertools
import unittest

from support import HIGHEST, ask, begin, line, put, row, run, state, turn


class Begin(unittest.TestCase):
    def test_each_point_onto_itself(self):
        for n in range(1, 7):
            self.assertEqual(run(begin(n), state()), [[0], [n, *range(n + 1)]])

    def test_refused(self):
        for n in (0, 7, 8, HIGHEST):
            self.assertEqual(run(begin(n)), [[-22]])

    def test_begin_again_starts_anew(self):
        told = run(*line(1, 2, 0), begin(2), state(), begin(6), state(), begin(1), state())
        self.assertEqual(told[2:], [[0], [2, 0, 1, 2], [0], [6, 0, 1, 2, 3, 4, 5, 6], [0], [1, 0, 1]])

    def test_a_refused_one_leaves_all_as_it_was(self):
        for n in (0, 7, HIGHEST):
            self.assertEqual(ask((1, 2, 0), begin(n), state()), [[-22], [2, 1, 2, 0]])


class Set(unittest.TestCase):
    def test_answers_where_it_was_put(self):
        told = run(begin(3), put(1, 3), put(1, 0), put(1, 0), put(3, 2), state())
        self.assertEqual(told[1:], [[1], [3], [0], [3], [3, 0, 0, 2, 2]])

    def test_the_first_and_the_last_point(self):
        told = run(begin(6), put(0, 6), put(6, 0), state())
        self.assertEqual(told[1:], [[0], [6], [6, 6, 1, 2, 3, 4, 5, 0]])

    def test_refused(self):
        cases = [(4, 0, -2), (HIGHEST, 3, -2), (0, 4, -22), (3, HIGHEST, -22), (4, 4, -2), (HIGHEST, HIGHEST, -2)]
        for i, v, refusal in cases:
            told = ask((3, 0, 2, 1), put(i, v), state())
            self.assertEqual(told, [[refusal], [3, 3, 0, 2, 1]], (i, v))

    def test_one_piece(self):
        told = run(begin(1), put(1, 0), put(0, 1), put(2, 0), put(0, 2), state())
        self.assertEqual(told[1:], [[1], [0], [-2], [-22], [1, 1, 0]])

    def test_a_shorter_line_has_fewer_points(self):
        self.assertEqual(run(begin(6), begin(2), put(3, 0), put(0, 3), state())[2:], [[-2], [-22], [2, 0, 1, 2]])


class Row(unittest.TestCase):
    def test_each_length(self):
        for n in range(1, 7):
            points = [n - point // 2 for point in range(n + 1)]
            self.assertEqual(run(begin(n), row(*points), state()), [[0], [0], [n, *points]])

    def test_refused(self):
        wrong = [
            (), (0,), (0, 1), (0, 1, 2), (0, 1, 2, 3, 0), (0,) * 10, (9,) * 10,
            (4, 0, 0, 0), (0, 0, 0, 4), (0, HIGHEST, 0, 0), (4, 4, 4),
        ]
        for points in wrong:
            told = ask((3, 0, 2, 1), row(*points), state())
            self.assertEqual(told, [[-22], [3, 3, 0, 2, 1]], points)

    def test_set_behind_a_row(self):
        self.assertEqual(ask((2, 2, 2), put(1, 0), state(), row(0, 0, 1), state()),
                         [[2], [2, 2, 0, 2], [0], [2, 0, 0, 1]])


class Turn(unittest.TestCase):
    def test_lines_that_are_not_the_same_turned_about(self):
        cases = [
            ((1, 2, 0), (2, 0, 1)),
            ((0, 0), (1, 1)),
            ((0, 2, 0), (2, 0, 2)),
            ((0, 0, 0, 1), (2, 3, 3, 3)),
            ((2, 4, 3, 1, 0), (4, 3, 1, 0, 2)),
            ((0, 6, 0, 1, 0, 2, 5), (1, 4, 6, 5, 6, 0, 6)),
        ]
        for points, about in cases:
            last = len(points) - 1
            self.assertEqual(ask(points, turn(), state(), turn(), state()),
                             [[0], [last, *about], [0], [last, *points]])

    def test_lines_that_are_the_same_turned_about(self):
        for points in ((0, 1), (1, 0), (0, 1, 2, 3), (3, 2, 1, 0), (3, 0, 3, 0), (1, 1, 1)):
            self.assertEqual(ask(points, turn(), state()), [[0], [len(points) - 1, *points]])

    def test_each_line_of_three_pieces(self):
        for points in itertools.product(range(4), repeat=4):
            about = [None] * 4
            for point in range(4):
                about[3 - point] = 3 - points[point]
            self.assertEqual(ask(points, turn(), state()), [[0], [3, *about]])

    def test_set_behind_a_turn(self):
        told = ask((1, 2, 0), turn(), put(0, 1), state(), turn(), state())
        self.assertEqual(told, [[0], [2], [2, 1, 0, 1], [0], [2, 1, 2, 1]])


class State(unittest.TestCase):
    def test_behind_each_change(self):
        told = run(begin(2), state(), put(0, 2), state(), row(1, 1, 2), state(), turn(), state())
        self.assertEqual(told[1::2], [[2, 0, 1, 2], [2, 2, 1, 2], [2, 1, 1, 2], [2, 0, 1, 1]])

    def test_asking_changes_nothing(self):
        self.assertEqual(ask((1, 2, 0), state(), state(), put(0, 0), state()),
                         [[2, 1, 2, 0], [2, 1, 2, 0], [1], [2, 0, 2, 0]])


if __name__ == "__main__":
    unittest.main()
