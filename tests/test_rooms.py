"""shoe, room and loop."""

import unittest

from search import each_line, kind_of, loop_of, room_of, shoe_of, some_lines, turned
from support import FULL, HIGHEST, ask, begin, loop, room, run, shoe, state, turn, way, ways


class Shoe(unittest.TestCase):
    def test_none(self):
        for points in ((0, 0), (0, 1), (1, 0), (0, 2, 1), (2, 1, 0), (0, 1, 2, 3), (3, 3, 3, 3), (2, 3, 1, 0)):
            self.assertEqual(ask(points, shoe(), state()), [[-33], [len(points) - 1, *points]], points)

    def test_two_loops_of_the_same_steps(self):
        # From piece 2 on to 5, and by 0 or by 1 back: pieces 2, 4 and 5 have two of 4 steps.
        self.assertEqual(ask((5, 4, 5, 6, 3, 2, 0), shoe()), [[4, 2, 2, 5, 0, 4, 2, 2, 5, 1, 4, 2]])

    def test_two_loops_of_different_steps(self):
        # Piece 1 comes back in 1 step and in 2; so in 2 there are two.
        self.assertEqual(ask((1, 2, 0), shoe()), [[2, 1, 1, 0, 1, 1, 1, 1]])
        # Piece 1 comes back in 1 step and in 3.
        self.assertEqual(ask((1, 3, 1, 0), shoe()), [[3, 1, 1, 1, 1, 1, 1, 2, 0, 1]])
        # Piece 0 comes back in 2 steps and in 4.
        self.assertEqual(ask((4, 3, 1, 0, 2), shoe()), [[4, 0, 0, 3, 0, 3, 0, 0, 3, 1, 2, 0]])

    def test_the_least_piece_where_several_have_two(self):
        self.assertEqual(ask((0, 2, 0), shoe()), [[2, 0, 0, 0, 0, 0, 1, 0]])
        # Pieces 4 and 5 alone cover both of them.
        self.assertEqual(ask((6, 6, 6, 6, 4, 6, 4), shoe()), [[2, 4, 4, 4, 4, 4, 5, 4]])

    def test_a_greater_piece_with_fewer_steps_comes_first(self):
        # Piece 0 has two of 4 steps, piece 1 of 3.
        self.assertEqual(ask((1, 3, 1, 0), shoe(), ways(0, 0, 3), ways(0, 0, 4))[1:], [[1], [2]])
        self.assertEqual(ask((1, 3, 1, 0), shoe())[0][:2], [3, 1])

    def test_the_first_two_of_more(self):
        self.assertEqual(ask(FULL, shoe(), ways(0, 0, 2)), [[2, 0, 0, 0, 0, 0, 1, 0], [6]])

    def test_the_most_steps_there_are(self):
        # No line has a shoe of more than 5 steps, nor of more than it has pieces.
        self.assertEqual(ask((2, 4, 6, 5, 3, 1, 0), shoe()), [[5, 0, 0, 3, 4, 1, 5, 0, 0, 3, 4, 2, 5, 0]])
        for points in some_lines():
            told = ask(points, shoe())[0]
            self.assertLessEqual(told[0], min(5, len(points) - 1), points)

    def test_as_the_words_stand(self):
        for points in some_lines():
            expected = shoe_of(points, 6) if kind_of(points) == 2 else [-33]
            self.assertEqual(ask(points, shoe(), state()), [expected, [len(points) - 1, *points]], points)

    def test_each_line_of_four_pieces(self):
        for points in each_line(4):
            expected = shoe_of(points, 4) if kind_of(points) == 2 else [-33]
            self.assertEqual(ask(points, shoe()), [expected], points)

    def test_it_tells_the_first_two_that_way_tells(self):
        for points in some_lines():
            told = ask(points, shoe())[0]
            if told[0] > 0:
                k, i = told[:2]
                self.assertEqual(len(told), 2 + 2 * (k + 1))
                one, other = ask(points, way(i, i, k, 0), way(i, i, k, 1))
                self.assertEqual(told[2:], one[1:] + other[1:], points)

    def test_turned_about(self):
        for points in some_lines():
            told = ask(points, turn(), shoe())
            self.assertEqual(told[1:], ask(turned(points), shoe()))
        self.assertEqual(ask((1, 2, 0), turn(), shoe())[1], [2, 0, 0, 0, 0, 0, 1, 0])


class Room(unittest.TestCase):
    def test_no_such_piece(self):
        for i in (2, 3, HIGHEST):
            self.assertEqual(ask((1, 2, 0), room(i), state()), [[-2], [2, 1, 2, 0]])
        self.assertEqual(run(begin(6), room(5), room(6))[1:], [[1, 5], [-2]])
        self.assertEqual(run(begin(1), room(0), room(1))[1:], [[1, 0], [-2]])

    def test_a_piece_on_no_loop(self):
        self.assertEqual(ask((0, 2, 3, 3), room(1), room(2)), [[1, 1], [1, 2]])
        self.assertEqual(ask((3, 3, 3, 3), room(0), room(1), room(2)), [[1, 0], [1, 1], [1, 2]])
        # Pieces 0 and 3 are ahead of the room of 1 and 2.
        self.assertEqual(ask((3, 2, 3, 1, 0), *[room(i) for i in range(4)]), [[1, 0], [2, 1, 2], [2, 1, 2], [1, 3]])

    def test_a_piece_that_covers_itself(self):
        self.assertEqual(ask((0, 2, 1), room(0), room(1)), [[1, 0], [1, 1]])
        self.assertEqual(ask((0, 1), room(0)), [[1, 0]])

    def test_rooms_of_several_pieces(self):
        self.assertEqual(ask((0, 5, 2, 4, 3, 1), *[room(i) for i in range(5)]),
                         [[1, 0], [2, 1, 4], [1, 2], [1, 3], [2, 1, 4]])
        self.assertEqual(ask((6, 5, 4, 3, 2, 1, 0), *[room(i) for i in range(6)]),
                         [[2, 0, 5], [2, 1, 4], [2, 2, 3], [2, 2, 3], [2, 1, 4], [2, 0, 5]])
        self.assertEqual(ask(FULL, room(4)), [[6, 0, 1, 2, 3, 4, 5]])

    def test_a_way_there_alone_is_not_enough(self):
        # Piece 3 leads to all, 0 and 2 lead to one another and to 1.
        self.assertEqual(ask((3, 1, 2, 0, 4), *[room(i) for i in range(4)]), [[2, 0, 2], [1, 1], [2, 0, 2], [1, 3]])

    def test_as_the_words_stand(self):
        for points in some_lines():
            pieces = range(len(points) - 1)
            expected = [room_of(points, i) for i in pieces]
            told = ask(points, *[room(i) for i in pieces], state())
            self.assertEqual(told[:-1], [[len(found), *found] for found in expected], points)
            self.assertEqual(told[-1], [len(pieces), *points])


class Loop(unittest.TestCase):
    def test_no_such_piece(self):
        for points in ((1, 2, 0), (0, 0, 0)):
            for i in (2, 3, HIGHEST):
                self.assertEqual(ask(points, loop(i), state()), [[-2], [2, *points]])
        self.assertEqual(run(begin(6), loop(5), loop(6))[1:], [[1, 5, 5], [-2]])

    def test_a_piece_on_none(self):
        self.assertEqual(ask((3, 3, 3, 3), loop(0), loop(1), loop(2)), [[-33]] * 3)
        self.assertEqual(ask((0, 2, 3, 3), loop(0), loop(1), loop(2), state()),
                         [[1, 0, 0], [-33], [-33], [3, 0, 2, 3, 3]])
        self.assertEqual(ask((3, 2, 3, 1, 0), loop(0), loop(3)), [[-33], [-33]])

    def test_the_fewest_steps(self):
        self.assertEqual(ask((1, 2, 0), loop(0), loop(1)), [[2, 0, 1, 0], [1, 1, 1]])
        self.assertEqual(ask((1, 3, 1, 0), loop(0), loop(1), loop(2)), [[2, 0, 2, 0], [1, 1, 1], [2, 2, 0, 2]])
        self.assertEqual(ask((4, 3, 1, 0, 2), loop(2)), [[4, 2, 0, 3, 1, 2]])
        self.assertEqual(ask(FULL, loop(5)), [[1, 5, 5]])

    def test_the_first_in_order(self):
        # By 0 or by 1.
        self.assertEqual(ask((5, 4, 5, 6, 3, 2, 0), loop(2), loop(4), loop(5), ways(5, 5, 4)),
                         [[4, 2, 5, 0, 4, 2], [4, 4, 2, 5, 0, 4], [4, 5, 0, 4, 2, 5], [2]])

    def test_one_piece(self):
        told = [ask(points, loop(0))[0] for points in ((0, 1), (1, 0), (0, 0), (1, 1))]
        self.assertEqual(told, [[1, 0, 0], [1, 0, 0], [-33], [-33]])

    def test_as_the_words_stand(self):
        for points in some_lines():
            pieces = range(len(points) - 1)
            told = ask(points, *[loop(i) for i in pieces], state())
            self.assertEqual(told[:-1], [loop_of(points, i) for i in pieces], points)
            self.assertEqual(told[-1], [len(pieces), *points])


if __name__ == "__main__":
    unittest.main()
