"""The calls on one bench, read from a list of whole numbers and answered in another."""

from wiredies.bench import Bench
from wiredies.dies import Die, least_width, part_taken

BEGIN = 0

NO_SUCH_DIE = -2
ROW_EMPTY = -6
NOT_BEGUN = -11
DIE_IN_USE = -16
DIE_IN_ROW = -17
OUT_OF_BOUNDS = -22
NO_ROOM = -28
NOT_AS_IT_STANDS = -33
WOULD_NOT_HOLD = -61

LEAST_WIDTH = 100
GREATEST_WIDTH = 10000
GREATEST_MOST = 500
GREATEST_OFF = 1000
GREATEST_LIFE = 100000
GREATEST_RUN = 20000
STEP_OF_RUNS = 100
DIES_AT_MOST = 8


def is_width(number):
    return LEAST_WIDTH <= number <= GREATEST_WIDTH


def can_be_wanted(width, off):
    return is_width(width) and off <= GREATEST_OFF


def begin(bench, given):
    rod = given[0]
    most = given[1]
    want = given[2]
    off = given[3]
    if not is_width(rod) or not 1 <= most <= GREATEST_MOST or not can_be_wanted(want, off):
        return [OUT_OF_BOUNDS]
    bench.begin(rod, most, want, off)
    return [0]


def add_die(bench, given):
    width = given[0]
    life = given[1]
    if not is_width(width) or not 1 <= life <= GREATEST_LIFE:
        return [OUT_OF_BOUNDS]
    number = len(bench.dies)
    if number == DIES_AT_MOST:
        return [NO_ROOM]
    bench.dies.append(Die(width, life))
    return [number]


def grind(bench, given):
    number = given[0]
    width = given[1]
    if not bench.has_die(number):
        return [NO_SUCH_DIE]
    if not is_width(width):
        return [OUT_OF_BOUNDS]
    if number in bench.row:
        return [DIE_IN_USE]
    die = bench.dies[number]
    before = die.wide()
    if before > width:
        return [NOT_AS_IT_STANDS]
    die.grind(width)
    return [before]


def change_rod(bench, given):
    rod = given[0]
    if not is_width(rod):
        return [OUT_OF_BOUNDS]
    before = bench.rod
    bench.rod = rod
    return [before]


def change_want(bench, given):
    want = given[0]
    off = given[1]
    if not can_be_wanted(want, off):
        return [OUT_OF_BOUNDS]
    before = bench.want
    bench.want = want
    bench.off = off
    return [before]


def put(bench, given):
    number = given[0]
    if not bench.has_die(number):
        return [NO_SUCH_DIE]
    if number in bench.row:
        return [DIE_IN_ROW]
    # Only the last step is asked of: a row that goes wrong further ahead can still grow.
    if not bench.reaches(bench.dies[number].wide()):
        return [NOT_AS_IT_STANDS]
    bench.row.append(number)
    return [len(bench.row)]


def take(bench, given):
    if not bench.row:
        return [ROW_EMPTY]
    return [bench.row.pop()]


def empty_row(bench, given):
    before = len(bench.row)
    bench.row = []
    return [before]


def tell_holds(bench, given):
    return [1 if bench.holds(bench.widths()) else 0]


def tell_wrong(bench, given):
    place = bench.wrong_place(bench.widths())
    return [NOT_AS_IT_STANDS if place is None else place]


def run_refusal(bench, metres):
    """With what a run is refused; None if it isn't."""
    if not 1 <= metres <= GREATEST_RUN:
        return OUT_OF_BOUNDS
    if not bench.holds(bench.widths()):
        return NOT_AS_IT_STANDS
    if not bench.holds(bench.widths_after(metres)):
        return WOULD_NOT_HOLD
    return None


def run(bench, given):
    metres = given[0]
    refusal = run_refusal(bench, metres)
    if refusal is not None:
        return [refusal]
    # Told ahead of the drawing, which may make the last die wider.
    out = bench.metres_out(metres)
    bench.draw(metres)
    return [out]


def tell_may(bench, given):
    refusal = run_refusal(bench, given[0])
    if refusal == OUT_OF_BOUNDS:
        return [refusal]
    return [1 if refusal is None else 0]


def tell_out(bench, given):
    metres = given[0]
    if metres > GREATEST_RUN:
        return [OUT_OF_BOUNDS]
    return [bench.metres_out(metres)]


def tell_longest(bench, given):
    if not bench.holds(bench.widths()):
        return [NOT_AS_IT_STANDS]
    # From the most on down, and none passed over: a run may be refused where a longer one isn't,
    # as with more metres another die of the row has grown too.
    for metres in range(GREATEST_RUN, 0, -STEP_OF_RUNS):
        if bench.holds(bench.widths_after(metres)):
            return [metres]
    return [0]


def tell_fewest(bench, given):
    row = bench.fewest_dies()
    if row is None:
        return [NOT_AS_IT_STANDS]
    return [len(row)] + row


def set_row(bench, given):
    row = bench.fewest_dies()
    if row is None:
        return [NOT_AS_IT_STANDS]
    bench.row = row
    return [len(row)]


def tell_takes(bench, given):
    place = given[0]
    if place >= len(bench.row):
        return [NO_SUCH_DIE]
    before = bench.wide_ahead(place)
    width = bench.widths()[place]
    if before <= width:
        return [NOT_AS_IT_STANDS]
    return [0] + part_taken(before, width)


def tell_least(bench, given):
    width = given[0]
    if not is_width(width):
        return [OUT_OF_BOUNDS]
    return [least_width(width, bench.most)]


def tell_size(bench, given):
    number = given[0]
    if not bench.has_die(number):
        return [NO_SUCH_DIE]
    die = bench.dies[number]
    return [die.wide(), die.ground, die.life, die.drawn]


def tell_left(bench, given):
    number = given[0]
    if not bench.has_die(number):
        return [NO_SUCH_DIE]
    return [bench.dies[number].metres_left()]


def tell_row(bench, given):
    return [len(bench.row)] + bench.row


def tell_sums(bench, given):
    out = bench.wide_out(bench.widths())
    return [bench.rod, bench.most, bench.want, bench.off, len(bench.dies), bench.metres_drawn, out]


# By a call's number: what answers it.
ANSWERED_BY = (
    begin, add_die, grind, change_rod, change_want, put, take, empty_row, tell_holds, tell_wrong, run, tell_may,
    tell_out, tell_longest, tell_fewest, set_row, tell_takes, tell_least, tell_size, tell_left, tell_row, tell_sums)

# By a call's number: how many numbers follow it.
FOLLOWED_BY = (4, 2, 2, 1, 2, 1, 0, 0, 0, 0, 1, 1, 1, 0, 0, 0, 1, 1, 1, 1, 0, 0)


def answer(bench, call, given):
    if call != BEGIN and not bench.begun:
        return [NOT_BEGUN]
    return ANSWERED_BY[call](bench, given)


def answers(calls):
    """What a line of calls on a new bench answers: for each call a count, then so many numbers."""
    bench = Bench()
    told = []
    place = 0
    while place < len(calls):
        call = calls[place]
        behind = place + 1 + FOLLOWED_BY[call]
        numbers = answer(bench, call, calls[place + 1:behind])
        told.append(len(numbers))
        told.extend(numbers)
        place = behind
    return told
