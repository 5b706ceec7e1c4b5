"""The calls on one line: read from a list of whole numbers, answered in another."""

from foldgrowth.growth import GROWS_AS_A_POWER, first_loop, kind_of, power_of, room_of, shoe_of
from foldgrowth.line import has_round, length_of, loop_count, piece_count, steps_of_loops, turned, unfolded
from foldgrowth.line import way_at, way_count

NO_SUCH = -2
NOT_BEGUN = -11
NOT_AS_TOLD = -22
NONE_THERE = -33

MOST_PIECES = 6
MOST_ROUND_STEPS = 6
MOST_STEPS = 30
MOST_WAY_STEPS = 8

BEGIN = 0
SET = 1
ROW = 2
TURN = 3
STATE = 4
HAS = 5
LENGTH = 6
WAYS = 7
WAY = 8
LOOPS = 9
STEPS = 10
KIND = 11
POWER = 12
SHOE = 13
ROOM = 14

# How many whole numbers each call has behind its own; a row tells that itself.
ARGUMENT_COUNTS = (1, 2, 0, 0, 0, 1, 1, 3, 4, 1, 0, 0, 0, 0, 1, 1)


class Session:
    """One line, and the answers to the calls on it: lists whose first number is below 0 where it's refused."""

    def __init__(self):
        # Without spots it isn't begun: a line that is has two or more.
        self.spots = []

    def is_point(self, point):
        return point < len(self.spots)

    def is_piece(self, piece):
        return piece < piece_count(self.spots)

    def begin(self, pieces):
        if pieces < 1 or pieces > MOST_PIECES:
            return [NOT_AS_TOLD]
        self.spots = unfolded(pieces)
        return [0]

    def put_point(self, point, spot):
        if not self.is_point(point):
            return [NO_SUCH]
        if not self.is_point(spot):
            return [NOT_AS_TOLD]
        before = self.spots[point]
        self.spots[point] = spot
        return [before]

    def put_row(self, points):
        if len(points) != len(self.spots):
            return [NOT_AS_TOLD]
        if not all([self.is_point(point) for point in points]):
            return [NOT_AS_TOLD]
        self.spots = list(points)
        return [0]

    def turn(self):
        self.spots = turned(self.spots)
        return [0]

    def state(self):
        return [piece_count(self.spots)] + self.spots

    def has(self, steps):
        if steps < 1 or steps > MOST_ROUND_STEPS:
            return [NOT_AS_TOLD]
        return [1 if has_round(self.spots, steps) else 0]

    def length(self, steps):
        if steps > MOST_STEPS:
            return [NOT_AS_TOLD]
        return [length_of(self.spots, steps)]

    def ways(self, first, last, steps):
        if not self.is_piece(first) or not self.is_piece(last):
            return [NO_SUCH]
        if steps > MOST_STEPS:
            return [NOT_AS_TOLD]
        return [way_count(self.spots, first, last, steps)]

    def way(self, first, last, steps, before):
        if not self.is_piece(first) or not self.is_piece(last):
            return [NO_SUCH]
        if steps > MOST_WAY_STEPS:
            return [NOT_AS_TOLD]
        if way_count(self.spots, first, last, steps) <= before:
            return [NONE_THERE]
        return [steps + 1] + way_at(self.spots, first, last, steps, before)

    def loops(self, steps):
        if steps < 1 or steps > MOST_STEPS:
            return [NOT_AS_TOLD]
        return [loop_count(self.spots, steps)]

    def steps(self):
        return [steps_of_loops(self.spots, MOST_STEPS)]

    def kind(self):
        return [kind_of(self.spots)]

    def power(self):
        if kind_of(self.spots) != GROWS_AS_A_POWER:
            return [NONE_THERE]
        return [power_of(self.spots)]

    def shoe(self):
        told = shoe_of(self.spots)
        return told if len(told) > 0 else [NONE_THERE]

    def room(self, piece):
        if not self.is_piece(piece):
            return [NO_SUCH]
        pieces = room_of(self.spots, piece)
        return [len(pieces)] + pieces

    def loop(self, piece):
        if not self.is_piece(piece):
            return [NO_SUCH]
        way = first_loop(self.spots, piece)
        return [len(way) - 1] + way if len(way) > 0 else [NONE_THERE]

    def answer(self, number, arguments):
        """What the call with this number answers."""
        if number == BEGIN:
            return self.begin(arguments[0])
        if len(self.spots) == 0:
            return [NOT_BEGUN]
        if number <= HAS:
            return self.answer_on_points(number, arguments)
        if number <= STEPS:
            return self.answer_on_ways(number, arguments)
        return self.answer_on_growth(number, arguments)

    def answer_on_points(self, number, arguments):
        if number == SET:
            return self.put_point(arguments[0], arguments[1])
        if number == ROW:
            return self.put_row(arguments)
        if number == TURN:
            return self.turn()
        if number == STATE:
            return self.state()
        return self.has(arguments[0])

    def answer_on_ways(self, number, arguments):
        if number == LENGTH:
            return self.length(arguments[0])
        if number == WAYS:
            return self.ways(arguments[0], arguments[1], arguments[2])
        if number == WAY:
            return self.way(arguments[0], arguments[1], arguments[2], arguments[3])
        if number == LOOPS:
            return self.loops(arguments[0])
        return self.steps()

    def answer_on_growth(self, number, arguments):
        if number == KIND:
            return self.kind()
        if number == POWER:
            return self.power()
        if number == SHOE:
            return self.shoe()
        if number == ROOM:
            return self.room(arguments[0])
        return self.loop(arguments[0])


def first_argument(calls, start):
    """Where the arguments begin of the call that begins at start."""
    return start + 2 if calls[start] == ROW else start + 1


def argument_count(calls, start):
    """How many arguments the call has that begins at start."""
    number = calls[start]
    return calls[start + 1] if number == ROW else ARGUMENT_COUNTS[number]


def answers(calls):
    """The answers to all calls on one new line, each behind how many numbers it has."""
    session = Session()
    told = []
    start = 0
    while start < len(calls):
        first = first_argument(calls, start)
        behind = first + argument_count(calls, start)
        answer = session.answer(calls[start], calls[first:behind])
        told.append(len(answer))
        told.extend(answer)
        start = behind
    return told
