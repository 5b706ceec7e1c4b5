"""What holds over the whole program, and that every call ends."""

import itertools
import unittest

from foldgrowth.pieces import answers
from search import each_line, some_lines
from support import FULL, HIGHEST, ask, begin, has, kind, length, loop, loops, power, put, room, rounds, row, run, shoe
from support import state, steps, turn, way, ways

POWERS_OF_TWO = (1, 2, 4, 8, 16)

# Doubled, with rounds of 12 steps, but with none of 3, 5 or 6.
SLOW = ((5, 4, 5, 6, 3, 2, 0), (3, 4, 6, 2, 1, 0, 1), (3, 5, 6, 1, 2, 1, 0), (4, 5, 6, 5, 3, 1, 0))


def whole_loops(points):
    """For each k of 1 to 30 how many loops of k steps aren't shorter ones gone through several times."""
    counts = [answer[0] for answer in ask(points, *[loops(k) for k in range(1, 31)])]
    whole = {}
    for k in range(1, 31):
        whole[k] = counts[k - 1] - sum(whole[fewer] for fewer in range(1, k) if k % fewer == 0)
    return whole


def point_rounds(points):
    """Of how many steps there are rounds of points."""
    found = set()
    for start in range(len(points)):
        point = points[start]
        for k in range(1, len(points) + 1):
            if point == start:
                found.add(k)
                break
            point = points[point]
    return found


def differences(numbers):
    return [after - before for before, after in zip(numbers, numbers[1:])]


class DoubledAndRounds(unittest.TestCase):
    def test_a_round_whose_steps_are_no_power_of_two(self):
        lines = itertools.chain(each_line(4, 3), some_lines())
        for points in lines:
            doubled = ask(points, kind()) == [[2]]
            self.assertEqual(doubled, any(k in rounds(points) for k in (3, 5, 6)), points)

    def test_rounds_of_more_than_six_steps_alone(self):
        for points in SLOW:
            self.assertEqual(ask(points, kind()), [[2]])
            self.assertEqual(rounds(points), [1, 2, 4])
            self.assertGreater(whole_loops(points)[12], 0)

    def test_loops_of_up_to_thirty_steps(self):
        for points in itertools.chain(SLOW, itertools.islice(some_lines(), 0, None, 7)):
            found = point_rounds(points) | {k for k, count in whole_loops(points).items() if count > 0}
            doubled = any(k not in POWERS_OF_TWO for k in found)
            self.assertEqual(ask(points, kind()) == [[2]], doubled, points)


class HowFast(unittest.TestCase):
    def test_with_a_shoe_it_doubles(self):
        for points in itertools.chain(SLOW, some_lines()):
            k = ask(points, shoe())[0][0]
            if k > 0:
                times = range(30 // k + 1)
                told = ask(points, *[length(m * k) for m in times])
                for m in times:
                    self.assertGreaterEqual(told[m][0], 2 ** m, points)

    def test_it_dies_out_just_if_nothing_is_left(self):
        for points in some_lines():
            n = len(points) - 1
            told = ask(points, kind(), length(n), steps())
            self.assertEqual(told[0] == [0], told[1] == [0], points)
            self.assertEqual(told[0] == [0], told[2] == [0], points)

    def test_just_as_fast_as_the_power(self):
        # All loops of such a line are of 1, 2 or 4 steps, so each fourth length, behind the first
        # six, is that of a power sum: its differences get the same as often as the power tells.
        for points in some_lines():
            degree = ask(points, power())[0][0]
            if degree >= 0:
                told = [answer[0] for answer in ask(points, *[length(k) for k in range(6, 31)])]
                for first in range(4):
                    row_of_lengths = told[first::4]
                    for time in range(degree):
                        row_of_lengths = differences(row_of_lengths)
                    self.assertGreater(row_of_lengths[0], 0, points)
                    self.assertEqual(set(row_of_lengths), {row_of_lengths[0]}, points)

    def test_no_more_than_both_lengths_multiplied(self):
        for points in itertools.islice(some_lines(), 0, None, 3):
            told = [answer[0] for answer in ask(points, *[length(k) for k in range(31)])]
            for j, k in ((0, 0), (0, 30), (1, 1), (1, 29), (2, 5), (7, 8), (15, 15), (10, 20)):
                self.assertLessEqual(told[j + k], told[j] * told[k], points)


class RefusedChangesNothing(unittest.TestCase):
    REFUSED = [
        (begin(0), -22), (begin(7), -22), (put(3, 0), -2), (put(0, 3), -22), (row(), -22), (row(0, 1, 3), -22),
        (has(0), -22), (has(7), -22), (length(31), -22), (ways(2, 0, 0), -2), (ways(0, 0, 31), -22),
        (way(2, 0, 0, 0), -2), (way(0, 2, 0, 0), -2), (way(0, 0, 9, 0), -22), (way(0, 0, 1, 0), -33),
        (way(1, 1, 8, HIGHEST), -33), (loops(0), -22), (loops(31), -22), (room(2), -2), (loop(2), -2),
    ]
    ASKED = [
        state(), *[has(k) for k in range(1, 7)], length(30), ways(0, 1, 30), way(1, 1, 8, 20), loops(30), steps(),
        kind(), power(), shoe(), room(0), loop(0), loop(1),
    ]

    def check(self, points, refused):
        before = ask(points, *self.ASKED)
        for call, refusal in refused:
            told = ask(points, call, *self.ASKED)
            self.assertEqual(told, [[refusal]] + before, (points, call))

    def test_a_doubled_line(self):
        self.check((1, 2, 0), self.REFUSED + [(power(), -33)])

    def test_a_line_that_grows_as_a_power(self):
        self.check((2, 1, 0), self.REFUSED + [(shoe(), -33)])

    def test_a_line_that_dies_out(self):
        self.check((1, 1, 0), self.REFUSED + [(power(), -33), (shoe(), -33), (loop(0), -33), (loop(1), -33)])


class EveryCallEnds(unittest.TestCase):
    CALLS = [
        has(6), length(30), ways(0, 5, 30), way(0, 5, 8, 0), way(5, 0, 8, 6 ** 7 - 1), way(0, 0, 8, HIGHEST),
        loops(30), steps(), kind(), power(), shoe(), room(5), loop(5), turn(), state(),
    ]

    def test_each_call_four_hundred_times(self):
        for call in self.CALLS:
            told = run(begin(6), row(*FULL), *[call] * 398)
            self.assertEqual(len(told), 400)

    def test_all_calls_mixed(self):
        several = list(itertools.islice(itertools.cycle(self.CALLS), 398))
        told = run(begin(6), row(*FULL), *several)
        self.assertEqual(len(told), 400)
        kinds = [answer for call, answer in zip(several, told[2:]) if call == kind()]
        self.assertEqual(kinds, [[2]] * len(kinds))

    def test_before_a_begin(self):
        for call in self.CALLS:
            self.assertEqual(answers(call * 400), [1, -11] * 400)


if __name__ == "__main__":
    unittest.main()
