"""The calls on one bench, read from a list of whole numbers and answered in another."""

from wiredies.bench import Bench
from wiredies.dies import Die

BEGIN = 0

NO_SUCH_DIE = -2
ROW_EMPTY = -6
NOT_BEGUN = -11
DIE_IN_USE = -16
DIE_IN_ROW = -17
OUT_OF_BOUNDS = -22
NO_ROOM = -28
NOT_AS_IT_STANDS = -33
WOULD_NOT_HOLD = -61

LEAST_WIDTH = 100
GREATEST_WIDTH = 10000
GREATEST_MOST = 500
GREATEST_OFF = 1000
GREATEST_LIFE = 100000
GREATEST_RUN = 20000
DIES_AT_MOST = 8


def is_width(number):
    return LEAST_WIDTH <= number <= GREATEST_WIDTH


def can_be_wanted(width, off):
    return is_width(width) and off <= GREATEST_OFF


def begin(bench, given):
    rod = given[0]
    most = given[1]
    want = given[2]
    off = given[3]
    if not is_width(rod) or not 1 <= most <= GREATEST_MOST or not can_be_wanted(want, off):
        return [OUT_OF_BOUNDS]
    bench.begin(rod, most, want, off)
    return [0]


def add_die(bench, given):
    width = given[0]
    life = given[1]
    if not is_width(width) or not 1 <= life <= GREATEST_LIFE:
        return [OUT_OF_BOUNDS]
    number = len(bench.dies)
    if number == DIES_AT_MOST:
        return [NO_ROOM]
    bench.dies.append(Die(width, life))
    return [number]


def grind(bench, given):
    number = given[0]
    width = given[1]
    if number >= len(bench.dies):
        return [NO_SUCH_DIE]
    if not is_width(width):
        return [OUT_OF_BOUNDS]
    if number in bench.row:
        return [DIE_IN_USE]
    die = bench.dies[number]
    before = die.wide()
    if before > width:
        return [NOT_AS_IT_STANDS]
    die.grind(width)
    return [before]


def change_rod(bench, given):
    rod = given[0]
    if not is_width(rod):
        return [OUT_OF_BOUNDS]
    before = bench.rod
    bench.rod = rod
    return [before]


def change_want(bench, given):
    want = given[0]
    off = given[1]
    if not can_be_wanted(want, off):
        return [OUT_OF_BOUNDS]
    before = bench.want
    bench.want = want
    bench.off = off
    return [before]


def put(bench, given):
    number = given[0]
    if number >= len(bench.dies):
        return [NO_SUCH_DIE]
    if number in bench.row:
        return [DIE_IN_ROW]
    # Only the last step is asked of: a row that goes wrong further ahead can still grow.
    if not bench.reaches(bench.dies[number].wide()):
        return [NOT_AS_IT_STANDS]
    bench.row.append(number)
    return [len(bench.row)]


def take(bench, given):
    if not bench.row:
        return [ROW_EMPTY]
    return [bench.row.pop()]


def empty_row(bench, given):
    before = len(bench.row)
    bench.row = []
    return [before]


def tell_holds(bench, given):
    return [1 if bench.holds(bench.widths()) else 0]


def tell_wrong(bench, given):
    place = bench.wrong_place(bench.widths())
    return [NOT_AS_IT_STANDS if place is None else place]


def run(bench, given):
    metres = given[0]
    if not 1 <= metres <= GREATEST_RUN:
        return [OUT_OF_BOUNDS]
    if not bench.holds(bench.widths()):
        return [NOT_AS_IT_STANDS]
    if not bench.holds(bench.widths_after(metres)):
        return [WOULD_NOT_HOLD]
    # Told ahead of the drawing, which may make the last die wider.
    out = bench.metres_out(metres)
    bench.draw(metres)
    return [out]


# By a call's number: what answers it.
ANSWERED_BY = (begin, add_die, grind, change_rod, change_want, put, take, empty_row, tell_holds, tell_wrong, run)

# By a call's number: how many numbers follow it. All the calls of the interface
# are here, as ahead of a begin each is read and answered alike.
FOLLOWED_BY = (4, 2, 2, 1, 2, 1, 0, 0, 0, 0, 1, 1, 1, 0, 0, 0, 1, 1, 1, 1, 0, 0)


def answer(bench, call, given):
    if call != BEGIN and not bench.begun:
        return [NOT_BEGUN]
    return ANSWERED_BY[call](bench, given)


def answers(calls):
    """What a line of calls on a new bench answers: for each call a count, then so many numbers."""
    bench = Bench()
    told = []
    place = 0
    while place < len(calls):
        call = calls[place]
        behind = place + 1 + FOLLOWED_BY[call]
        numbers = answer(bench, call, calls[place + 1:behind])
        told.append(len(numbers))
        told.extend(numbers)
        place = behind
    return told
