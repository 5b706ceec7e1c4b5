"""kind and power."""

import unittest

from search import kind_of, power_of, some_lines
from support import FULL, ask, begin, kind, power, put, row, run, state, turn

DIES_OUT = ((0, 0, 1), (1, 1, 0), (0, 0, 1, 2), (3, 1, 1, 1, 0), (0, 0, 0, 1, 2, 3), (0, 0, 1, 2, 3, 4, 5))
DOUBLED = (
    (0, 2, 0), (1, 2, 0), (2, 0, 1), (1, 3, 1, 0), (4, 3, 1, 0, 2), (2, 4, 3, 1, 0), (5, 4, 5, 6, 3, 2, 0), FULL,
    # What covers two of its room has others ahead of it, and behind it, that don't.
    (3, 2, 3, 1, 0), (0, 2, 0, 0, 3, 0, 0),
)

# Each line that grows as a power, with it.
POWERS = (
    ((0, 1), 0), ((1, 0), 0),
    # A piece covers two, but one of them is of another room, or of no loop.
    ((0, 2, 1), 1), ((0, 2, 2), 0), ((0, 2, 3, 3), 0),
    # Rooms of one piece, one behind another.
    ((0, 2, 1, 0, 4, 0, 6), 3),
    # A piece on no loop leads from the one room to the other one.
    ((0, 2, 3, 2), 1), ((0, 2, 4, 3, 2), 1),
    # Rooms of two pieces ahead of, behind and between ones of one.
    ((3, 1, 2, 0, 4), 2), ((0, 5, 2, 4, 3, 1), 3), ((0, 0, 6, 3, 5, 4, 2), 3), ((0, 0, 0, 5, 6, 4, 3), 2),
    # A room of two pieces, one of four, each behind one of one.
    ((2, 3, 1, 0), 1), ((3, 4, 5, 2, 1, 0), 1),
    # Rooms that aren't behind one another.
    ((0, 1, 2, 3), 0), ((0, 1, 2, 3, 2, 1, 0), 0), ((6, 5, 4, 3, 2, 1, 0), 0), ((0, 2, 1, 3, 2, 4, 3), 1),
)


class Kind(unittest.TestCase):
    def test_it_dies_out(self):
        for points in DIES_OUT:
            self.assertEqual(ask(points, kind()), [[0]], points)

    def test_it_grows_as_a_power(self):
        for points, expected in POWERS:
            self.assertEqual(ask(points, kind()), [[1]], points)

    def test_it_is_doubled(self):
        for points in DOUBLED:
            self.assertEqual(ask(points, kind()), [[2]], points)

    def test_one_piece(self):
        told = [ask(points, kind())[0] for points in ((0, 0), (1, 1), (0, 1), (1, 0))]
        self.assertEqual(told, [[0], [0], [1], [1]])

    def test_all_onto_one(self):
        for n in range(1, 7):
            for point in range(n + 1):
                self.assertEqual(ask((point,) * (n + 1), kind()), [[0]])

    def test_each_onto_itself_and_the_other_way_about(self):
        for n in range(1, 7):
            self.assertEqual(run(begin(n), kind())[1:], [[1]])
            self.assertEqual(ask(tuple(range(n, -1, -1)), kind()), [[1]])

    def test_the_line_as_it_is(self):
        told = run(begin(2), kind(), put(1, 2), kind(), put(2, 0), kind(), row(2, 2, 2), kind(), begin(2), kind())
        self.assertEqual(told[1::2], [[1], [1], [2], [0], [1]])

    def test_as_the_words_stand(self):
        for points in some_lines():
            self.assertEqual(ask(points, kind(), state()), [[kind_of(points)], [len(points) - 1, *points]])


class Power(unittest.TestCase):
    def test_known(self):
        for points, expected in POWERS:
            self.assertEqual(ask(points, power()), [[expected]], points)

    def test_none(self):
        for points in DIES_OUT + DOUBLED + ((0, 0), (1, 1), (4, 4, 4, 4, 4)):
            self.assertEqual(ask(points, power(), state()), [[-33], [len(points) - 1, *points]], points)

    def test_each_onto_itself_and_the_other_way_about(self):
        for n in range(1, 7):
            self.assertEqual(run(begin(n), power())[1:], [[0]])
            self.assertEqual(ask(tuple(range(n, -1, -1)), power()), [[0]])

    def test_as_the_words_stand(self):
        for points in some_lines():
            expected = power_of(points) if kind_of(points) == 1 else -33
            self.assertEqual(ask(points, power()), [[expected]], points)


class TurnedAbout(unittest.TestCase):
    def test_kind_and_power_stay(self):
        for points in some_lines():
            told = ask(points, kind(), power(), turn(), kind(), power())
            self.assertEqual(told[:2], told[3:], points)


if __name__ == "__main__":
    unittest.main()
