"""The line that is put onto itself: what its pieces cover, its ways, loops and rounds.

A line is told by its spots: a list of where each of its points is put, from point 0 on.
"""


def unfolded(pieces):
    """The line of so many pieces each of whose points is put onto itself."""
    return list(range(pieces + 1))


def turned(spots):
    """The same line, told from its other end."""
    last = len(spots) - 1
    return [last - spot for spot in reversed(spots)]


def piece_count(spots):
    """How many pieces the line has."""
    return len(spots) - 1


def covered(spots, piece):
    """The pieces that this piece covers, the least first."""
    least = min(spots[piece], spots[piece + 1])
    behind = max(spots[piece], spots[piece + 1])
    return list(range(least, behind))


def one_step_more(spots, counts):
    """From how many ways end in each piece: how many do when each goes on by a step."""
    onward = [0] * len(counts)
    for piece, count in enumerate(counts):
        for other in covered(spots, piece):
            onward[other] += count
    return onward


def one_step_ahead(spots, counts):
    """From how many ways begin in each piece: how many do when a step is put ahead of each."""
    ahead = [0] * len(counts)
    for piece in range(len(counts)):
        for other in covered(spots, piece):
            ahead[piece] += counts[other]
    return ahead


def begins_in(spots, piece):
    """One way of no steps, which begins and ends in this piece."""
    begins = [0] * piece_count(spots)
    begins[piece] = 1
    return begins


def way_ends(spots, begins, steps):
    """How many ways of so many steps end in each piece, where begins[i] of them begin in piece i."""
    counts = list(begins)
    for step in range(steps):
        counts = one_step_more(spots, counts)
    return counts


def length_of(spots, steps):
    """How many ways of so many steps there are in all."""
    return sum(way_ends(spots, [1] * piece_count(spots), steps))


def way_count(spots, first, last, steps):
    """How many ways of so many steps lead from the first piece to the last one."""
    return way_ends(spots, begins_in(spots, first), steps)[last]


def counts_onward(spots, last, most):
    """For 0 steps, 1 and so on up to most: how many ways of so many lead from each piece to the last one."""
    counts = begins_in(spots, last)
    told = [counts]
    for step in range(most):
        counts = one_step_ahead(spots, counts)
        told.append(counts)
    return told


def way_at(spots, first, last, steps, before):
    """The way of so many steps from the first piece to the last one with so many before it, in order."""
    onward = counts_onward(spots, last, steps)
    skipped = before
    way = [first]
    for left in range(steps - 1, -1, -1):
        counts = onward[left]
        choices = covered(spots, way[-1])
        at = 0
        while skipped >= counts[choices[at]]:
            skipped -= counts[choices[at]]
            at += 1
        way.append(choices[at])
    return way


def loops_by_piece(spots, most):
    """For 1 step, 2 and so on up to most: how many loops of so many begin in each piece."""
    ends = [begins_in(spots, piece) for piece in range(piece_count(spots))]
    told = []
    for step in range(most):
        ends = [one_step_more(spots, counts) for counts in ends]
        told.append([counts[piece] for piece, counts in enumerate(ends)])
    return told


def loop_count(spots, steps):
    """How many loops of so many steps (1 or more) there are, one for each piece in which one begins."""
    return sum(loops_by_piece(spots, steps)[-1])


def steps_of_loops(spots, most):
    """Of how many steps, up to most, there's a loop: 1 counts 1, and each one more twice as much."""
    told = 0
    weight = 1
    for counts in loops_by_piece(spots, most):
        if sum(counts) > 0:
            told += weight
        weight *= 2
    return told


def whole_loop_count(spots, steps):
    """How many of these loops are not a shorter loop, gone through several times."""
    count = loop_count(spots, steps)
    for fewer in range(1, steps):
        if steps % fewer == 0:
            count -= whole_loop_count(spots, fewer)
    return count


def comes_back(spots, start, steps):
    """Whether a point is put onto itself behind so many steps, and not behind fewer."""
    point = start
    for step in range(1, steps + 1):
        point = spots[point]
        if point == start:
            return step == steps
    return False


def has_round(spots, steps):
    """Whether some place, a point or not, comes back in so many steps (1 to 6)."""
    # Why points and whole loops are enough: a place that comes back and is no point
    # goes round a loop. If that loop is a shorter one gone through again, the shorter
    # one turns a piece about, straight onto itself, so that the piece's ends, which
    # are points, come back in as many steps as the place.
    # Why each whole loop counts: just one place keeps to it, or all of a piece do, and
    # comes back in as many steps as it has; unless that's a point which comes back in
    # half as many, its two sides changed. Near that point the line is stretched, so
    # further off some place comes back in twice the point's steps. (With 3 of them it
    # may be 2 instead of 6; but a round of 3 steps brings rounds of any.)
    if any([comes_back(spots, point, steps) for point in range(len(spots))]):
        return True
    return whole_loop_count(spots, steps) > 0
