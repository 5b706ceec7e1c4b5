"""What the tests share: calls written down by name, and answers taken apart."""

from foldgrowth.pieces import answers

HIGHEST = 4294967295

# Each of its six pieces covers all six.
FULL = (0, 6, 0, 6, 0, 6, 0)


def begin(n):
    return [0, n]


def put(i, v):
    return [1, i, v]


def row(*points):
    return [2, len(points), *points]


def turn():
    return [3]


def state():
    return [4]


def has(k):
    return [5, k]


def length(k):
    return [6, k]


def ways(i, j, k):
    return [7, i, j, k]


def way(i, j, k, m):
    return [8, i, j, k, m]


def loops(k):
    return [9, k]


def steps():
    return [10]


def kind():
    return [11]


def power():
    return [12]


def shoe():
    return [13]


def room(i):
    return [14, i]


def loop(i):
    return [15, i]


def run(*calls):
    """The answers to these calls on one new line, a list each."""
    flat = [number for call in calls for number in call]
    told = answers(flat)
    taken = []
    at = 0
    while at < len(told):
        behind = at + 1 + told[at]
        if behind > len(told):
            raise AssertionError(f"a count leads past the end: {told}")
        taken.append(told[at + 1:behind])
        at = behind
    if len(taken) != len(calls):
        raise AssertionError(f"{len(calls)} calls, but {len(taken)} answers: {told}")
    return taken


def line(*points):
    """The calls that make the line whose points are put onto these."""
    return [begin(len(points) - 1), row(*points)]


def ask(points, *calls):
    """The answers to these calls on the line whose points are put onto these."""
    return run(*line(*points), *calls)[2:]


def rounds(points):
    """For which k of 1 to 6 the line has a round."""
    told = ask(points, *[has(k) for k in range(1, 7)])
    for answer in told:
        if answer not in ([0], [1]):
            raise AssertionError(f"has answers {answer}")
    return [k for k in range(1, 7) if told[k - 1] == [1]]
