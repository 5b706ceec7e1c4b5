"""The line that is put onto itself: what its pieces cover, its ways and its rounds.

A line is told by its spots: a list of where each of its points is put, from point 0 on.
"""


def unfolded(pieces):
    """The line of so many pieces each of whose points is put onto itself."""
    return list(range(pieces + 1))


def turned(spots):
    """The same line, told from its other end."""
    last = len(spots) - 1
    return [last - spot for spot in reversed(spots)]


def piece_count(spots):
    """How many pieces the line has."""
    return len(spots) - 1


def covered(spots, piece):
    """The pieces that this piece covers, the least first."""
    least = min(spots[piece], spots[piece + 1])
    behind = max(spots[piece], spots[piece + 1])
    return list(range(least, behind))


def one_step_more(spots, counts):
    """From how many ways end in each piece: how many do when each goes on by a step."""
    onward = [0] * len(counts)
    for piece, count in enumerate(counts):
        for other in covered(spots, piece):
            onward[other] += count
    return onward


def way_ends(spots, begins, steps):
    """How many ways of so many steps end in each piece, where begins[i] of them begin in piece i."""
    counts = list(begins)
    for step in range(steps):
        counts = one_step_more(spots, counts)
    return counts


def length_of(spots, steps):
    """How many ways of so many steps there are in all."""
    return sum(way_ends(spots, [1] * piece_count(spots), steps))


def way_count(spots, first, last, steps):
    """How many ways of so many steps lead from the first piece to the last one."""
    begins = [0] * piece_count(spots)
    begins[first] = 1
    return way_ends(spots, begins, steps)[last]


def loop_count(spots, steps):
    """How many loops of so many steps there are, one for each piece in which one begins."""
    return sum([way_count(spots, piece, piece, steps) for piece in range(piece_count(spots))])


def whole_loop_count(spots, steps):
    """How many of these loops are not a shorter loop, gone through several times."""
    count = loop_count(spots, steps)
    for fewer in range(1, steps):
        if steps % fewer == 0:
            count -= whole_loop_count(spots, fewer)
    return count


def comes_back(spots, start, steps):
    """Whether a point is put onto itself behind so many steps, and not behind fewer."""
    point = start
    for step in range(1, steps + 1):
        point = spots[point]
        if point == start:
            return step == steps
    return False


def has_round(spots, steps):
    """Whether some place, a point or not, comes back in so many steps (1 to 6)."""
    # Why points and whole loops are enough: a place that comes back and is no point
    # goes round a loop. If that loop is a shorter one gone through again, the shorter
    # one turns a piece about, straight onto itself, so that the piece's ends, which
    # are points, come back in as many steps as the place.
    # Why each whole loop counts: just one place keeps to it, or all of a piece do, and
    # comes back in as many steps as it has; unless that's a point which comes back in
    # half as many, its two sides changed. Near that point the line is stretched, so
    # further off some place comes back in twice the point's steps. (With 3 of them it
    # may be 2 instead of 6; but a round of 3 steps brings rounds of any.)
    if any([comes_back(spots, point, steps) for point in range(len(spots))]):
        return True
    return whole_loop_count(spots, steps) > 0
