"""What the document's words say of ways, rooms and loops, found by trying all there is."""

import itertools


def pieces_of(points):
    return range(len(points) - 1)


def covers(points, i, j):
    """Whether piece j lies between where piece i's beginning and its end are put."""
    one, other = points[i], points[i + 1]
    return (one <= j and j + 1 <= other) or (other <= j and j + 1 <= one)


def all_ways(points, k):
    """Each way of k steps, in order, found by trying each row of pieces."""
    found = []
    for walk in itertools.product(pieces_of(points), repeat=k + 1):
        if all(covers(points, walk[at], walk[at + 1]) for at in range(k)):
            found.append(walk)
    return found


def ways_from(points, i, k):
    """Each way of k steps that begins in piece i, in order."""
    found = [(i,)]
    for step in range(k):
        found = [walk + (j,) for walk in found for j in pieces_of(points) if covers(points, walk[-1], j)]
    return found


def loops_from(points, i, k):
    """Each loop of k steps that begins in piece i, in order."""
    return [walk for walk in ways_from(points, i, k) if walk[-1] == i]


def leads(points):
    """Each two pieces of which a way of 1 step or more leads from the first to the second."""
    found = {(i, j) for i in pieces_of(points) for j in pieces_of(points) if covers(points, i, j)}
    while True:
        longer = {(i, m) for i, j in found for k, m in found if j == k}
        if longer <= found:
            return found
        found |= longer


def room_of(points, i):
    lead = leads(points)
    return [j for j in pieces_of(points) if j == i or ((i, j) in lead and (j, i) in lead)]


def kind_of(points):
    """0 it dies out, 1 it grows as a power, 2 it's doubled: as the document's words stand."""
    lead = leads(points)
    looped = [i for i in pieces_of(points) if (i, i) in lead]
    for i in looped:
        room = room_of(points, i)
        for j in room:
            if len([k for k in room if covers(points, j, k)]) >= 2:
                return 2
    return 1 if looped else 0


def power_of(points):
    """One less than the most rooms with loops that a way passes, each way without a piece twice tried."""
    lead = leads(points)
    rooms = {i: tuple(room_of(points, i)) for i in pieces_of(points) if (i, i) in lead}
    most = 0
    waiting = [(i,) for i in pieces_of(points)]
    while waiting:
        walk = waiting.pop()
        most = max(most, len({rooms[i] for i in walk if i in rooms}))
        waiting.extend(walk + (j,) for j in pieces_of(points) if j not in walk and covers(points, walk[-1], j))
    return most - 1


def shoe_of(points, most):
    """What shoe answers, if there are two loops from one piece of up to most steps; else None."""
    for k in range(1, most + 1):
        for i in pieces_of(points):
            found = loops_from(points, i, k)
            if len(found) >= 2:
                return [k, i, *found[0], *found[1]]
    return None


def loop_of(points, i):
    """What loop answers for piece i."""
    for k in range(1, len(points)):
        found = loops_from(points, i, k)
        if found:
            return [k, *found[0]]
    return [-33]


def each_line(n, apart=1):
    """Each line of n pieces, or one of so many."""
    return itertools.islice(itertools.product(range(n + 1), repeat=n + 1), 0, None, apart)


def some_lines():
    """Each line of 1 to 3 pieces, and some of 4 to 6."""
    for n, apart in ((1, 1), (2, 1), (3, 1), (4, 7), (5, 131), (6, 3301)):
        yield from each_line(n, apart)


def turned(points):
    last = len(points) - 1
    return tuple(last - point for point in reversed(points))
