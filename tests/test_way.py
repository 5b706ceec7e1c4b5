"""way: the ways from a piece to a piece, one by one and in order."""

import itertools
import unittest

from search import each_line, ways_from
from support import FULL, HIGHEST, ask, begin, length, run, state, turn, way, ways


def told_ways(points, i, j, k):
    """All that way tells from piece i to piece j, for m of 0, 1, 2 and so on, as many as ways tells."""
    count = ask(points, ways(i, j, k))[0][0]
    # One call more than there are ways: it must be refused.
    told = ask(points, *[way(i, j, k, m) for m in range(count + 1)])
    if told[-1] != [-33]:
        raise AssertionError(f"{count} ways, but one more is told: {points} {told}")
    return told[:-1]


class Refused(unittest.TestCase):
    def check(self, points, cases):
        for i, j, k, m, refusal in cases:
            told = ask(points, way(i, j, k, m), state())
            self.assertEqual(told, [[refusal], [len(points) - 1, *points]], (i, j, k, m))

    def test_no_such_piece(self):
        self.check((1, 2, 0), [(2, 0, 1, 0, -2), (0, 2, 1, 0, -2), (2, 2, 1, 0, -2), (HIGHEST, 1, 1, 0, -2),
                               (1, HIGHEST, 1, 0, -2), (2, 0, 0, 0, -2), (2, 2, 0, 0, -2)])

    def test_no_such_piece_is_told_ahead_of_the_others(self):
        self.check((1, 2, 0), [(2, 0, 9, 0, -2), (0, 2, 9, 0, -2), (2, 0, 1, HIGHEST, -2), (0, 2, 1, HIGHEST, -2),
                               (HIGHEST, HIGHEST, HIGHEST, HIGHEST, -2)])

    def test_too_many_steps(self):
        self.check((1, 2, 0), [(0, 0, 9, 0, -22), (1, 1, 9, 0, -22), (1, 0, 30, 0, -22), (0, 1, HIGHEST, 0, -22)])

    def test_too_many_steps_are_told_ahead_of_none(self):
        self.check((0, 0, 0), [(0, 1, 9, 0, -22), (0, 0, HIGHEST, HIGHEST, -22)])
        self.check((1, 2, 0), [(1, 1, 9, HIGHEST, -22)])

    def test_there_is_none(self):
        self.check((0, 0, 0), [(0, 0, 1, 0, -33), (0, 1, 1, 0, -33), (1, 1, 8, 0, -33)])
        self.check((1, 2, 0), [(0, 0, 1, 0, -33), (1, 1, 1, 1, -33), (1, 1, 2, 2, -33), (1, 1, 8, 34, -33),
                               (1, 1, 8, HIGHEST, -33)])

    def test_the_last_piece_is_one_before_the_last_point(self):
        told = run(begin(6), way(5, 5, 1, 0), way(6, 5, 1, 0), way(5, 6, 1, 0))
        self.assertEqual(told[1:], [[2, 5, 5], [-2], [-2]])


class NoSteps(unittest.TestCase):
    def test_from_a_piece_to_itself_and_to_another(self):
        for points in ((1, 2, 0, 3), (0, 0, 0, 0), (0, 1, 2, 3), (0, 3, 0, 3)):
            for i, j in itertools.product(range(3), repeat=2):
                told = ask(points, way(i, j, 0, 0), way(i, j, 0, 1), way(i, j, 0, HIGHEST))
                self.assertEqual(told, [[1, i] if i == j else [-33], [-33], [-33]])


class Known(unittest.TestCase):
    def test_two_ways_in_order(self):
        self.assertEqual(ask((1, 2, 0), way(1, 1, 2, 0), way(1, 1, 2, 1), way(1, 1, 2, 2)),
                         [[3, 1, 0, 1], [3, 1, 1, 1], [-33]])

    def test_it_goes_from_the_first_to_the_second(self):
        self.assertEqual(ask((0, 2, 2), way(0, 1, 1, 0), way(1, 0, 1, 0), way(0, 1, 3, 0)),
                         [[2, 0, 1], [-33], [4, 0, 0, 0, 1]])

    def test_one_piece(self):
        for points in ((0, 1), (1, 0)):
            self.assertEqual(ask(points, way(0, 0, 0, 0), way(0, 0, 1, 0), way(0, 0, 8, 0), way(0, 0, 8, 1)),
                             [[1, 0], [2, 0, 0], [9] + [0] * 9, [-33]])
        for points in ((0, 0), (1, 1)):
            self.assertEqual(ask(points, way(0, 0, 0, 0), way(0, 0, 1, 0), way(0, 0, 8, 0)), [[1, 0], [-33], [-33]])

    def test_eight_steps_where_each_piece_covers_all(self):
        last = 6 ** 7 - 1
        told = ask(FULL, way(0, 5, 8, 0), way(0, 5, 8, 1), way(0, 5, 8, last), way(0, 5, 8, last + 1),
                   way(0, 5, 8, HIGHEST))
        self.assertEqual(told, [[9, 0, 0, 0, 0, 0, 0, 0, 0, 5], [9, 0, 0, 0, 0, 0, 0, 0, 1, 5],
                                [9, 0, 5, 5, 5, 5, 5, 5, 5, 5], [-33], [-33]])

    def test_there_the_pieces_between_count_on_like_digits(self):
        for m in range(0, 6 ** 7, 4999):
            digits = [m // 6 ** at % 6 for at in range(6, -1, -1)]
            self.assertEqual(ask(FULL, way(3, 2, 8, m)), [[9, 3, *digits, 2]])

    def test_asking_changes_nothing(self):
        told = ask((1, 2, 0), way(1, 1, 8, 3), way(1, 1, 8, 3), state(), length(2))
        self.assertEqual(told[0], told[1])
        self.assertEqual(told[2:], [[2, 1, 2, 0], [5]])

    def test_turned_about(self):
        told = ask((1, 2, 0), turn(), way(0, 0, 2, 0), way(0, 0, 2, 1), way(0, 0, 2, 2))
        self.assertEqual(told[1:], [[3, 0, 0, 0], [3, 0, 1, 0], [-33]])


class EachOnceInOrder(unittest.TestCase):
    def check(self, points, k):
        for i in range(len(points) - 1):
            found = ways_from(points, i, k)
            for j in range(len(points) - 1):
                expected = [[k + 1, *walk] for walk in found if walk[-1] == j]
                self.assertEqual(told_ways(points, i, j, k), expected, (points, i, j, k))

    def test_each_line_of_one_and_two_pieces(self):
        for n, k in itertools.product((1, 2), range(9)):
            if n == 1 or k < 6:
                for points in each_line(n):
                    self.check(points, k)

    def test_each_line_of_three_pieces(self):
        for points in each_line(3):
            self.check(points, 3)

    def test_lines_of_more_pieces(self):
        for points in ((2, 4, 3, 1, 0), (3, 0, 5, 1, 4, 2), (5, 0, 0, 2, 1, 6, 3), (6, 3, 0, 1, 1, 5, 2)):
            for k in range(5):
                self.check(points, k)

    def test_eight_steps(self):
        for points in ((1, 2, 0), (1, 3, 1, 0), (2, 4, 3, 1, 0), (5, 4, 5, 6, 3, 2, 0), (2, 4, 6, 5, 3, 1, 0)):
            self.check(points, 8)


if __name__ == "__main__":
    unittest.main()
