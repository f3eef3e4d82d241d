"""Lines of calls, written by name, and what is answered to them."""

from wiredies.drawing import answers

TOP = 4294967295


def begin(rod=1000, most=500, want=900, off=1000):
    return [0, rod, most, want, off]


def die(width, life=100000):
    return [1, width, life]


def grind(d, width):
    return [2, d, width]


def rod(r):
    return [3, r]


def want(w, off):
    return [4, w, off]


def put(d):
    return [5, d]


TAKE = [6]
CLEAR = [7]
HOLDS = [8]
WRONG = [9]


def run(m):
    return [10, m]


def flat(calls):
    return [number for call in calls for number in call]


def told(calls):
    """What each call is answered; each of these calls is answered one number."""
    given = answers(flat(calls))
    if given[0::2] != [1] * len(calls):
        raise AssertionError(f"not one number for each call: {given}")
    return given[1::2]


def last(*calls):
    return told(calls)[-1]


def wide(calls, d):
    """How wide a die is behind these calls: ground to the widest, it tells how wide it was."""
    return last(*calls, CLEAR, grind(d, 10000))


def row(calls):
    """The dies that are in the row behind these calls, in order."""
    count = last(*calls, CLEAR)
    return told(list(calls) + [TAKE] * count)[len(calls):][::-1]


def wanted(calls):
    """What is wanted behind these calls."""
    return last(*calls, want(100, 0))


def as_wanted(calls, width):
    """Whether behind these calls a rod of that width is as wanted."""
    return last(*calls, CLEAR, rod(width), HOLDS)
