"""length and ways."""

import itertools
import unittest

from search import all_ways
from support import FULL, HIGHEST, ask, begin, length, run, state, turn, ways


class Length(unittest.TestCase):
    def test_no_step(self):
        for n in range(1, 7):
            self.assertEqual(run(begin(n), length(0))[1:], [[n]])

    def test_each_point_onto_itself(self):
        for n in range(1, 7):
            self.assertEqual(run(begin(n), length(1), length(2), length(30))[1:], [[n]] * 3)

    def test_all_onto_one(self):
        self.assertEqual(ask((3, 3, 3, 3, 3), length(0), length(1), length(30)), [[4], [0], [0]])

    def test_one_piece(self):
        for points, k in itertools.product([(0, 1), (1, 0)], [0, 1, 2, 29, 30]):
            self.assertEqual(ask(points, length(k)), [[1]])
        for points in ((0, 0), (1, 1)):
            self.assertEqual(ask(points, length(0), length(1), length(30)), [[1], [0], [0]])

    def test_a_piece_that_covers_none(self):
        self.assertEqual(ask((0, 0, 2), *[length(k) for k in range(4)]), [[2], [2], [2], [2]])
        self.assertEqual(ask((0, 0, 1), *[length(k) for k in range(4)]), [[2], [1], [0], [0]])

    def test_each_step_is_one_number_further(self):
        told = ask((1, 2, 0), *[length(k) for k in range(7)], length(30))
        self.assertEqual(told, [[2], [3], [5], [8], [13], [21], [34], [3524578]])

    def test_more_than_twenty_digits(self):
        told = ask(FULL, length(1), length(29), length(30))
        self.assertEqual(told, [[36], [6 ** 30], [6 ** 31]])
        self.assertEqual(told[2], [1326443518324400147398656])

    def test_refused(self):
        for k in (31, 32, HIGHEST):
            self.assertEqual(ask((1, 2, 0), length(k), state()), [[-22], [2, 1, 2, 0]])

    def test_the_same_turned_about(self):
        for points in itertools.product(range(3), repeat=3):
            told = ask(points, length(9), turn(), length(9))
            self.assertEqual(told[0], told[2])

    def test_no_more_than_both_lengths_multiplied(self):
        for points in itertools.product(range(4), repeat=4):
            told = [answer[0] for answer in ask(points, *[length(k) for k in range(9)])]
            for j, k in itertools.product(range(5), repeat=2):
                self.assertLessEqual(told[j + k], told[j] * told[k])


class Ways(unittest.TestCase):
    def test_no_step(self):
        for points in ((1, 2, 0, 3), (0, 0, 0, 0), (0, 1, 2, 3)):
            for i, j in itertools.product(range(3), repeat=2):
                self.assertEqual(ask(points, ways(i, j, 0)), [[1 if i == j else 0]])

    def test_one_step_is_what_is_covered(self):
        points = (5, 0, 0, 2, 1, 6, 3)
        table = [[ask(points, ways(i, j, 1))[0][0] for j in range(6)] for i in range(6)]
        self.assertEqual(table, [
            [1, 1, 1, 1, 1, 0],
            [0, 0, 0, 0, 0, 0],
            [1, 1, 0, 0, 0, 0],
            [0, 1, 0, 0, 0, 0],
            [0, 1, 1, 1, 1, 1],
            [0, 0, 0, 1, 1, 1],
        ])

    def test_from_one_piece_to_another_is_not_back(self):
        told = ask((0, 2, 2), ways(0, 1, 1), ways(1, 0, 1), ways(0, 0, 30), ways(0, 1, 30), ways(1, 1, 1))
        self.assertEqual(told, [[1], [0], [1], [1], [0]])

    def test_one_piece(self):
        self.assertEqual(ask((1, 0), ways(0, 0, 0), ways(0, 0, 1), ways(0, 0, 30)), [[1], [1], [1]])
        self.assertEqual(ask((1, 1), ways(0, 0, 0), ways(0, 0, 1), ways(0, 0, 30)), [[1], [0], [0]])

    def test_great_numbers(self):
        told = ask(FULL, ways(0, 5, 30), ways(5, 0, 29), ways(3, 3, 30))
        self.assertEqual(told, [[6 ** 29], [6 ** 28], [6 ** 29]])
        self.assertGreater(told[0][0], 10 ** 20)

    def test_refused(self):
        cases = [
            (2, 0, 0, -2), (0, 2, 0, -2), (2, 2, 0, -2), (HIGHEST, 0, 1, -2), (0, HIGHEST, 1, -2),
            (2, 0, 31, -2), (0, 2, 31, -2), (0, 0, 31, -22), (1, 0, HIGHEST, -22), (HIGHEST, HIGHEST, HIGHEST, -2),
        ]
        for i, j, k, refusal in cases:
            self.assertEqual(ask((1, 2, 0), ways(i, j, k), state()), [[refusal], [2, 1, 2, 0]], (i, j, k))

    def test_the_last_piece_is_one_before_the_last_point(self):
        self.assertEqual(run(begin(6), ways(5, 5, 1), ways(6, 5, 1), ways(5, 6, 1))[1:], [[1], [-2], [-2]])

    def test_turned_about(self):
        points = (5, 0, 0, 2, 1, 6, 3)
        for i, j in itertools.product(range(6), repeat=2):
            told = ask(points, ways(i, j, 4), turn(), ways(5 - i, 5 - j, 4))
            self.assertEqual(told[0], told[2])


class EachWayOnce(unittest.TestCase):
    def check(self, points, k):
        found = all_ways(points, k)
        self.assertEqual(ask(points, length(k)), [[len(found)]])
        for i, j in itertools.product(range(len(points) - 1), repeat=2):
            count = len([walk for walk in found if walk[0] == i and walk[-1] == j])
            self.assertEqual(ask(points, ways(i, j, k)), [[count]], (points, i, j, k))

    def test_each_line_of_one_and_two_pieces(self):
        for n, k in itertools.product((1, 2), range(6)):
            for points in itertools.product(range(n + 1), repeat=n + 1):
                self.check(points, k)

    def test_each_line_of_three_pieces(self):
        for points in itertools.product(range(4), repeat=4):
            self.check(points, 3)

    def test_lines_of_more_pieces(self):
        for points in ((2, 4, 3, 1, 0), (3, 0, 5, 1, 4, 2), (5, 0, 0, 2, 1, 6, 3), (6, 3, 0, 1, 1, 5, 2)):
            for k in range(5):
                self.check(points, k)


if __name__ == "__main__":
    unittest.main()
