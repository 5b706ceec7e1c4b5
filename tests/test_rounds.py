"""has: by lines whose rounds are known, and beside a search through all places."""

import itertools
import unittest
from fractions import Fraction

from support import HIGHEST, ask, begin, has, put, rounds, row, run, state, turn


def put_place(points, place):
    """Where a place is put, straight between where the points beside it are."""
    i = min(place.numerator // place.denominator, len(points) - 2)
    return points[i] + (points[i + 1] - points[i]) * (place - i)


def put_often(points, place, k):
    for step in range(k):
        place = put_place(points, place)
    return place


def comes_back_in(points, place, most):
    """The fewest steps behind which the place is where it was, or None."""
    moved = place
    for steps in range(1, most + 1):
        moved = put_place(points, moved)
        if moved == place:
            return steps
    return None


def bends(points, k):
    """Places between each two of which the line, k times put, is straight."""
    found = {Fraction(point) for point in range(len(points))}
    for step in range(k - 1):
        before = set(found)
        for i in range(len(points) - 1):
            rise = points[i + 1] - points[i]
            if rise != 0:
                sources = [i + (place - points[i]) / rise for place in found]
                before.update(place for place in sources if i <= place <= i + 1)
        found = before
    return sorted(found)


def searched_rounds(points, most):
    """For which k of 1 to most there's a round: each place that could come back is tried."""
    found = set()
    for k in range(1, most + 1):
        marks = bends(points, k)
        images = [put_often(points, mark, k) for mark in marks]
        for at in range(len(marks) - 1):
            left, right = marks[at], marks[at + 1]
            rise = (images[at + 1] - images[at]) / (right - left)
            if rise != 1:
                place = (images[at] - rise * left) / (1 - rise)
                places = [place] if left <= place <= right else []
            elif images[at] == left:
                # All come back here; a third and the half are the two sorts there are.
                places = [left, left + (right - left) / 3, (left + right) / 2, right]
            else:
                places = []
            found.update(comes_back_in(points, place, k) for place in places)
    return sorted(found)


class Refused(unittest.TestCase):
    def test_no_such_steps(self):
        for k in (0, 7, 8, HIGHEST):
            self.assertEqual(ask((1, 2, 0), has(k), state()), [[-22], [2, 1, 2, 0]])


class Known(unittest.TestCase):
    # Each line has a round of 1 step, as it's put onto itself without a gap.

    def test_each_onto_itself(self):
        for n in range(1, 7):
            self.assertEqual(rounds(tuple(range(n + 1))), [1])

    def test_all_onto_one(self):
        for n in range(1, 7):
            for point in range(n + 1):
                self.assertEqual(rounds((point,) * (n + 1)), [1])

    def test_put_the_other_way_about(self):
        for n in range(1, 7):
            self.assertEqual(rounds(tuple(range(n, -1, -1))), [1, 2])

    def test_points_that_come_back(self):
        self.assertEqual(rounds((1, 2, 0)), [1, 2, 3, 4, 5, 6])
        self.assertEqual(rounds((2, 3, 1, 0)), [1, 2, 4])
        self.assertEqual(rounds((2, 4, 3, 1, 0)), [1, 2, 4, 5, 6])
        self.assertEqual(rounds((3, 5, 4, 2, 1, 0)), [1, 2, 4, 6])

    def test_seven_steps_of_points(self):
        # A round of 7 that brings no 3 and no 5, but each even one.
        self.assertEqual(rounds((3, 6, 5, 4, 2, 1, 0)), [1, 2, 4, 6])

    def test_places_that_are_no_points(self):
        # Here no point comes back in more than 1 step.
        self.assertEqual(rounds((0, 2, 0)), [1, 2, 3, 4, 5, 6])
        self.assertEqual(rounds((0, 3, 0, 0)), [1, 2, 3, 4, 5, 6])
        self.assertEqual(rounds((2, 2, 0)), [1, 2])
        self.assertEqual(rounds((0, 6, 0, 6, 0, 6, 0)), [1, 2, 3, 4, 5, 6])

    def test_pieces_that_change_places(self):
        # Pieces 0 and 2 change places: both straight, one of them turned about, both.
        self.assertEqual(rounds((2, 3, 0, 1)), [1, 2])
        self.assertEqual(rounds((2, 3, 1, 0)), [1, 2, 4])
        self.assertEqual(rounds((3, 2, 1, 0)), [1, 2])

    def test_a_point_whose_sides_change(self):
        # Point 2 stays, the two pieces beside it change places, and are stretched or not.
        self.assertEqual(rounds((4, 3, 2, 1, 0)), [1, 2])
        self.assertEqual(rounds((4, 4, 2, 0, 0)), [1, 2])
        self.assertEqual(rounds((3, 3, 2, 0, 0)), [1, 2])

    def test_pieces_that_cover_none(self):
        self.assertEqual(rounds((1, 1, 0)), [1])
        self.assertEqual(rounds((0, 2, 2)), [1])
        self.assertEqual(rounds((2, 2, 1, 0)), [1, 2])
        self.assertEqual(rounds((1, 2, 2, 0)), [1])

    def test_one_piece(self):
        self.assertEqual(rounds((0, 0)), [1])
        self.assertEqual(rounds((0, 1)), [1])
        self.assertEqual(rounds((1, 0)), [1, 2])
        self.assertEqual(rounds((1, 1)), [1])

    def test_a_loop_that_is_a_shorter_one_twice(self):
        # Each loop of 2 steps stays in one piece, so no place comes back in 2 steps.
        self.assertEqual(rounds((0, 2, 2)), [1])
        self.assertEqual(rounds((0, 1, 3, 3)), [1])
        self.assertEqual(rounds((0, 2, 3, 3)), [1])


class BehindChanges(unittest.TestCase):
    def test_it_is_asked_of_the_line_as_it_is(self):
        told = run(begin(2), has(3), put(0, 1), put(1, 2), put(2, 0), has(3), row(0, 0, 0), has(3),
                   row(1, 2, 0), turn(), has(3), begin(2), has(3))
        self.assertEqual([told[at] for at in (1, 5, 7, 10, 12)], [[0], [1], [0], [1], [0]])

    def test_turned_about(self):
        for points in itertools.product(range(4), repeat=4):
            calls = [has(k) for k in range(1, 7)]
            told = ask(points, *calls, turn(), *calls)
            self.assertEqual(told[:6], told[7:])

    def test_asking_changes_nothing(self):
        told = ask((2, 4, 3, 1, 0), *[has(k) for k in range(8)], state())
        self.assertEqual(told[-1], [4, 2, 4, 3, 1, 0])


class Searched(unittest.TestCase):
    def check(self, n, apart, most):
        """Each line of n pieces, or one of so many, and the k up to most."""
        lines = itertools.product(range(n + 1), repeat=n + 1)
        for points in itertools.islice(lines, 0, None, apart):
            found = searched_rounds(points, most)
            self.assertEqual([k for k in rounds(points) if k <= most], found, points)

    def test_each_line_of_one_to_three_pieces(self):
        self.check(1, 1, 6)
        self.check(2, 1, 6)
        self.check(3, 1, 6)

    def test_some_lines_of_four_to_six_pieces(self):
        self.check(4, 23, 6)
        self.check(5, 397, 5)
        self.check(6, 9973, 4)

    def test_six_steps(self):
        lines = [
            (3, 5, 4, 2, 1, 0), (3, 6, 5, 4, 2, 1, 0), (2, 4, 3, 1, 0), (2, 3, 1, 0), (1, 2, 3, 0),
            (4, 5, 3, 2, 0, 1), (2, 1, 3, 0), (4, 2, 1, 0, 0), (3, 3, 2, 0, 0), (2, 2, 1, 0),
            (4, 5, 6, 3, 2, 0, 1), (5, 6, 4, 3, 1, 2, 0), (6, 4, 5, 3, 2, 1, 0), (4, 6, 5, 3, 2, 0, 1),
            # The loops of fewer steps are nearly as many here as those of 4, of 5.
            (0, 1, 2, 4, 5, 3), (6, 3, 0, 1, 3, 2, 3),
        ]
        for points in lines:
            self.assertEqual(rounds(points), searched_rounds(points, 6), points)


class OneRoundBringsOthers(unittest.TestCase):
    BRINGS = {3: (1, 2, 4, 5, 6), 5: (1, 2, 4, 6), 6: (1, 2, 4), 4: (1, 2), 2: (1,)}

    def test_each_line_of_four_pieces(self):
        for points in itertools.product(range(5), repeat=5):
            found = rounds(points)
            self.assertIn(1, found)
            for k in found:
                for other in self.BRINGS.get(k, ()):
                    self.assertIn(other, found, points)


if __name__ == "__main__":
    unittest.main()
