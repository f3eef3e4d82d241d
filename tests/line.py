"""Lines of calls, written by name, and what is answered to them."""

from wiredies.drawing import answers

TOP = 4294967295


def begin(rod=1000, most=500, want=900, off=1000):
    return [0, rod, most, want, off]


def die(width, life=100000):
    return [1, width, life]


def grind(d, width):
    return [2, d, width]


def rod(r):
    return [3, r]


def want(w, off):
    return [4, w, off]


def put(d):
    return [5, d]


TAKE = [6]
CLEAR = [7]
HOLDS = [8]
WRONG = [9]


def run(m):
    return [10, m]


def may(m):
    return [11, m]


def out(m):
    return [12, m]


LONGEST = [13]
FEWEST = [14]
SET_ROW = [15]


def takes(k):
    return [16, k]


def least(a):
    return [17, a]


def size(d):
    return [18, d]


def left(d):
    return [19, d]


ROW = [20]
SUMS = [21]


def flat(calls):
    return [number for call in calls for number in call]


def lists(calls):
    """What each call is answered, all its numbers in a list."""
    given = answers(flat(calls))
    found = []
    place = 0
    while place < len(given):
        behind = place + 1 + given[place]
        found.append(given[place + 1:behind])
        place = behind
    if place != len(given) or len(found) != len(calls) or [] in found:
        raise AssertionError(f"not so many answers as calls: {given}")
    return found


def told(calls):
    """What each call is answered; each of these calls is answered one number."""
    given = lists(calls)
    if [one for one in given if len(one) != 1]:
        raise AssertionError(f"not one number for each call: {given}")
    return [one[0] for one in given]


def last(*calls):
    """What the last call is answered, which is one number."""
    given = lists(calls)[-1]
    if len(given) != 1:
        raise AssertionError(f"not one number: {given}")
    return given[0]


def numbers(*calls):
    """All the numbers that the last call is answered."""
    return lists(calls)[-1]


def wide(calls, d):
    """How wide a die is behind these calls: ground to the widest, it tells how wide it was."""
    return last(*calls, CLEAR, grind(d, 10000))


def row(calls):
    """The dies that are in the row behind these calls, in order; by way of clear and take alone."""
    count = last(*calls, CLEAR)
    return [given[0] for given in lists(list(calls) + [TAKE] * count)[len(calls):][::-1]]


def state(calls):
    """All that can be told of what there is behind these calls."""
    return lists(list(calls) + [SUMS, ROW] + [size(d) for d in range(8)])[len(calls):]


def wanted(calls):
    """What is wanted behind these calls."""
    return last(*calls, want(100, 0))


def as_wanted(calls, width):
    """Whether behind these calls a rod of that width is as wanted."""
    return last(*calls, CLEAR, rod(width), HOLDS)
