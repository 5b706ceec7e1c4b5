"""How fast a line grows: the rooms of its pieces, its kind, its power and its shoe.

A line is told by its spots: a list of where each of its points is put, from point 0 on.
"""

from foldgrowth.line import covered, loops_by_piece, piece_count, way_at

DIES_OUT = 0
GROWS_AS_A_POWER = 1
IS_DOUBLED = 2


def reached(spots, start):
    """The pieces to which ways of 1 step or more lead from this one."""
    found = []
    waiting = [start]
    while len(waiting) > 0:
        piece = waiting.pop()
        for other in covered(spots, piece):
            if other not in found:
                found.append(other)
                waiting.append(other)
    return found


def is_on_loop(spots, piece):
    """Whether some loop begins in this piece."""
    return piece in reached(spots, piece)


def room_of(spots, piece):
    """The room of a piece, the least first."""
    onward = reached(spots, piece)
    room = []
    for other in range(piece_count(spots)):
        if other == piece or (other in onward and piece in reached(spots, other)):
            room.append(other)
    return room


def covers_two_of_its_room(spots, piece):
    """Whether a piece covers two pieces of its own room, or more."""
    room = room_of(spots, piece)
    return len([other for other in covered(spots, piece) if other in room]) > 1


def kind_of(spots):
    """Whether the line dies out, grows as a power, or is doubled."""
    # That the room has a loop needn't be asked: a room of two pieces or more always has one.
    if any([covers_two_of_its_room(spots, piece) for piece in range(piece_count(spots))]):
        return IS_DOUBLED
    if any([is_on_loop(spots, piece) for piece in range(piece_count(spots))]):
        return GROWS_AS_A_POWER
    return DIES_OUT


def rooms_with_loops(spots):
    """The rooms with loops, each told by its least piece."""
    found = []
    for piece in range(piece_count(spots)):
        if is_on_loop(spots, piece) and room_of(spots, piece)[0] == piece:
            found.append(piece)
    return found


def most_rooms_passed(spots, rooms, room):
    """The most of these rooms that a way which begins in this one can pass."""
    onward = reached(spots, room)
    # This ends: a way that has left a room doesn't come back to it, so each time fewer are ahead.
    passed = [most_rooms_passed(spots, rooms, other) for other in rooms if other != room and other in onward]
    return 1 + max(passed, default=0)


def power_of(spots):
    """The power as which a line grows that grows as one."""
    rooms = rooms_with_loops(spots)
    return max([most_rooms_passed(spots, rooms, room) for room in rooms]) - 1


def first_loop(spots, piece):
    """Of the loops of the fewest steps that begin in a piece the first in order, or [] if it's on none."""
    # No more steps than pieces are needed: a loop that passes another piece twice can be cut short.
    for steps, counts in enumerate(loops_by_piece(spots, piece_count(spots)), start=1):
        if counts[piece] > 0:
            return way_at(spots, piece, piece, steps, 0)
    return []


def shoe_of(spots):
    """The fewest steps of two loops that begin in one piece, the least such piece, the first two; else []."""
    # Twice as many steps as pieces are enough: where a piece covers two of its room, two loops
    # begin that part at once, of no more steps than pieces each; the one and then the other,
    # the other and then the one, are two of the same steps. So it's [] just where the line
    # isn't doubled: two loops from one piece part somewhere, at a piece that covers two of its room.
    for steps, counts in enumerate(loops_by_piece(spots, 2 * piece_count(spots)), start=1):
        for piece, count in enumerate(counts):
            if count > 1:
                return [steps, piece] + way_at(spots, piece, piece, steps, 0) + way_at(spots, piece, piece, steps, 1)
    return []
