"""What holds of every line: drawn by a seeded choice of calls, so that each time they are the same."""

import itertools
import random
import unittest
from fractions import Fraction

from tests.line import (
    CLEAR, FEWEST, HOLDS, LONGEST, ROW, SET_ROW, SUMS, TAKE, TOP, WRONG, begin, die, grind, last, least, left, lists,
    may, numbers, out, put, rod, row, run, size, state, takes, told, want, wide)

LINES = 300
# With a question behind each call, and all that state asks, a line is just as long as one may be.
CALLS = 34
FEW_LINES = 60

ASKING = (8, 9, 11, 12, 13, 14, 16, 17, 18, 19, 20, 21)
METRES = (0, 1, 7, 100, 1000, 20000, 20001)


def some_width(choice):
    return choice.choice((99, 100, 10000, 10001, TOP) + tuple(choice.randrange(850, 1101) for n in range(20)))


def some_call(choice):
    """A call that may change something, holds or wrong."""
    kind = choice.choice(("die", "die", "die", "grind", "rod", "want", "put", "put", "put", "take", "clear", "holds",
                          "wrong", "run", "run", "run", "set", "begin"))
    d = choice.randrange(6)
    if kind == "begin" and choice.randrange(4) == 0:
        return begin(some_width(choice), choice.choice((0, 100, 500)), some_width(choice), 100)
    if kind == "die":
        return die(some_width(choice), choice.choice((0, 1, 20, 100, 1000, 100001)))
    if kind == "grind":
        return grind(d, some_width(choice))
    if kind == "rod":
        return rod(some_width(choice))
    if kind == "want":
        return want(some_width(choice), choice.choice((0, 50, 500, 1001)))
    if kind == "put":
        return put(d)
    if kind == "run":
        return run(choice.choice(METRES))
    return {"take": TAKE, "clear": CLEAR, "holds": HOLDS, "wrong": WRONG, "set": SET_ROW}.get(kind, HOLDS)


def some_question(choice):
    """A call that changes nothing."""
    few = choice.randrange(9)
    return choice.choice((
        HOLDS, WRONG, may(choice.choice(METRES)), out(choice.choice(METRES)), LONGEST, FEWEST, takes(few // 3),
        least(some_width(choice)), size(few), left(few), ROW, SUMS))


def some_line(seed):
    choice = random.Random(seed)
    begun = begin(1000, choice.choice((20, 100, 500)), 950, choice.choice((0, 20, 1000)))
    return [begun] + [some_call(choice) for n in range(CALLS)]


def with_questions(line, seed):
    choice = random.Random(seed)
    return [call for one in line for call in (one, some_question(choice))]


def runs(line):
    """Each run of the line that isn't refused: the calls ahead of it, it, and its answer."""
    given = told(line)
    return [(line[:k], call, given[k]) for k, call in enumerate(line) if call[0] == 10 and given[k] >= 0]


def row_comes_out(widths, rod_width, most):
    """How wide what comes out of a row of these widths is; None if the row doesn't go."""
    before = rod_width
    for width in widths:
        if width >= before or 1 - Fraction(width * width, before * before) > Fraction(most, 1000):
            return None
        before = width
    return before


def first_of_all_rows(calls):
    """What fewest is due to answer behind these calls: each row there is, tried, from the fewest dies on."""
    sums = numbers(*calls, SUMS)
    wides = [numbers(*calls, size(d))[0] for d in range(sums[4])]
    for count in range(len(wides) + 1):
        for tried in itertools.permutations(range(len(wides)), count):
            comes = row_comes_out([wides[d] for d in tried], sums[0], sums[1])
            if comes is not None and abs(comes - sums[2]) <= sums[3]:
                return [count] + list(tried)
    return [-33]


class WhatHolds(unittest.TestCase):

    lines = [some_line(seed) for seed in range(LINES)]

    def test_the_lines_show_each_call_both_ways(self):
        seen = set()
        for seed, line in enumerate(self.lines):
            asked = with_questions(line, seed)
            seen.update((call[0], min(given[0], 0)) for call, given in zip(asked, lists(asked)))
        self.assertEqual(sorted(seen), sorted([
            (0, 0), (0, -22), (1, 0), (1, -22), (1, -28), (2, 0), (2, -2), (2, -22), (2, -16), (2, -33), (3, 0),
            (3, -22), (4, 0), (4, -22), (5, 0), (5, -2), (5, -17), (5, -33), (6, 0), (6, -6), (7, 0), (8, 0),
            (9, 0), (9, -33), (10, 0), (10, -22), (10, -33), (10, -61), (11, 0), (11, -22), (12, 0), (12, -22),
            (13, 0), (13, -33), (14, 0), (14, -33), (15, 0), (15, -33), (16, 0), (16, -2), (16, -33), (17, 0),
            (17, -22), (18, 0), (18, -2), (19, 0), (19, -2), (20, 0), (21, 0)]))

    def test_a_refused_call_changes_nothing(self):
        for line in self.lines:
            given = told(line)
            taken = [call for call, number in zip(line, given) if number >= 0]
            self.assertEqual(told(taken), [number for number in given if number >= 0])
            self.assertEqual(state(taken), state(line))

    def test_what_asks_changes_nothing(self):
        for seed, line in enumerate(self.lines):
            asked = with_questions(line, seed)
            self.assertEqual([given[0] for given in lists(asked)[0::2]], told(line))
            self.assertEqual(state(asked), state(line))
            self.assertTrue(all(call[0] in ASKING for call in asked[1::2]))

    def test_what_is_run_holds_ahead_and_behind(self):
        for line in self.lines:
            for ahead, call, came in runs(line):
                self.assertEqual(told(ahead + [HOLDS, call, HOLDS])[-3:], [1, came, 1])

    def test_what_a_run_draws(self):
        for line in self.lines:
            for ahead, call, came in runs(line):
                before = state(ahead)
                behind = state(ahead + [call])
                self.assertEqual(behind[0][:6], before[0][:5] + [before[0][5] + call[1]])
                self.assertEqual(behind[1], before[1])
                for d in range(8):
                    self.assertEqual(behind[2 + d], self.worn(before, d, call[1]))

    def worn(self, before, d, metres):
        """What size is due to tell of a die behind a run, by what was told of it ahead."""
        told_size = before[2 + d]
        if d not in before[1][1:]:
            return told_size
        through = int(metres * Fraction(before[0][0], told_size[0]) ** 2)
        drawn = told_size[3] + through
        return [told_size[1] + drawn // told_size[2], told_size[1], told_size[2], drawn]

    def test_sums_tells_what_was_drawn_since_begin(self):
        for line in self.lines:
            given = told(line)
            begun = [k for k, call in enumerate(line) if call[0] == 0 and given[k] == 0][-1]
            drawn = [line[k][1] for k in range(begun, len(line)) if line[k][0] == 10 and given[k] >= 0]
            self.assertEqual(numbers(*line, SUMS)[5], sum(drawn))

    def test_dies_only_get_wider(self):
        for line in self.lines[:FEW_LINES]:
            begun = [k for k, call in enumerate(line) if call[0] == 0 and told(line)[k] == 0][-1]
            before = {}
            for k in range(begun + 1, len(line) + 1):
                now = {d: wide(line[:k], d) for d in range(8)}
                for d, width in before.items():
                    if width != -2:
                        self.assertGreaterEqual(now[d], width)
                before = now

    def test_size_and_left_agree(self):
        for line in self.lines:
            for d in range(8):
                told_size = numbers(*line, size(d))
                if told_size == [-2]:
                    self.assertEqual(last(*line, left(d)), -2)
                    continue
                width, ground, life, drawn = told_size
                self.assertEqual(width, wide(line, d))
                self.assertEqual(width, ground + drawn // life)
                more = last(*line, left(d))
                self.assertTrue(1 <= more <= life)
                self.assertEqual((drawn + more) % life, 0)

    def test_thinner_is_longer(self):
        for line in self.lines:
            for ahead, call, came in runs(line):
                self.assertEqual(last(*ahead, out(call[1])), came)
                self.assertGreaterEqual(came, call[1])
                if not row(ahead):
                    self.assertEqual(came, call[1])

    def test_through_each_die_more_come_no_fewer(self):
        for line in self.lines:
            calls = line + [CLEAR, rod(1000)]
            came = []
            for d in range(6):
                calls = calls + [put(d)]
                came.append(last(*calls, out(20000)))
            self.assertEqual(came, sorted(came))

    def test_wrong_and_holds_agree(self):
        for line in self.lines:
            holds, wrong = told(line + [HOLDS, WRONG])[-2:]
            if holds == 1:
                self.assertEqual(wrong, -33)

    def test_may_and_run_agree(self):
        for line in self.lines:
            for m in METRES:
                allowed = last(*line, may(m))
                came = last(*line, run(m))
                self.assertEqual(allowed, -22 if came == -22 else int(came >= 0))

    def test_longest_and_run_agree(self):
        for line in self.lines:
            longest = last(*line, LONGEST)
            if longest == -33:
                self.assertEqual(last(*line, run(100)), -33)
                continue
            allowed = [m for m in range(100, 20001, 100) if last(*line, may(m)) == 1]
            self.assertEqual(longest, max(allowed, default=0))
            if longest > 0:
                self.assertGreaterEqual(last(*line, run(longest)), 0)

    def test_row_and_take_agree(self):
        for line in self.lines:
            there = row(line)
            self.assertEqual(numbers(*line, ROW), [len(there)] + there)

    def test_takes_tells_what_is_lost(self):
        for line in self.lines:
            sums, there, *sizes = state(line)
            before = sums[0]
            for place, d in enumerate(there[1:]):
                width = sizes[d][0]
                part = 1 - Fraction(width * width, before * before)
                due = [0, part.numerator, part.denominator] if part > 0 else [-33]
                self.assertEqual(numbers(*line, takes(place)), due)
                before = width
            self.assertEqual(sums[6], before)
            self.assertEqual(numbers(*line, takes(there[0])), [-2])

    def test_what_set_puts_is_what_fewest_tells(self):
        for line in self.lines:
            told_row = numbers(*line, FEWEST)
            self.assertEqual(numbers(*line, SET_ROW), told_row[:1])
            if told_row == [-33]:
                self.assertEqual(state(line + [SET_ROW]), state(line))
            else:
                self.assertEqual(numbers(*line, SET_ROW, ROW), told_row)
                self.assertEqual(told(line + [SET_ROW, HOLDS])[-1], 1)
                # One by one they can be put in, too.
                self.assertEqual(last(*line, CLEAR, *[put(d) for d in told_row[1:]], HOLDS), 1)


class AgainstAllRows(unittest.TestCase):
    """No row of fewer dies comes to what's wanted; told that there's none, none does."""

    def some_dies(self, seed, count):
        choice = random.Random(seed)
        most = choice.choice((30, 60, 120, 300, 500))
        # So that rows of some dies are due: what's wanted lies some steps below the rod.
        step = max(1000 - last(begin(most=most), least(1000)), 2)
        low = max(1000 - 4 * step, 150)
        widths = [choice.randrange(low, 1010) for d in range(count)]
        off = choice.choice((0, 1, step // 2))
        return [begin(1000, most, choice.choice(widths + [low]), off)] + [die(width) for width in widths]

    def test_up_to_six_dies(self):
        counts = {}
        for seed in range(400):
            calls = self.some_dies(seed, 1 + seed % 6)
            due = first_of_all_rows(calls)
            self.assertEqual(numbers(*calls, FEWEST), due, calls)
            counts[due[0]] = counts.get(due[0], 0) + 1
        # Rows of many lengths were due, and none.
        self.assertTrue({-33, 0, 1, 2, 3, 4, 5} <= set(counts), counts)

    def test_dies_nearly_alike(self):
        # Many rows of like number, of which the first by numbers is due.
        for seed in range(150):
            choice = random.Random(seed)
            widths = [choice.choice((900, 901, 800, 801, 700, 701, 600)) for d in range(6)]
            calls = [begin(1000, choice.choice((200, 250, 300, 500)), choice.choice((600, 700, 800)), 1)]
            calls += [die(width) for width in widths]
            self.assertEqual(numbers(*calls, FEWEST), first_of_all_rows(calls), calls)

    def test_eight_dies(self):
        for seed in range(6):
            calls = self.some_dies(seed, 8)
            self.assertEqual(numbers(*calls, FEWEST), first_of_all_rows(calls), calls)

    def test_worn_dies(self):
        found = 0
        for seed in range(120):
            line = some_line(seed)
            due = first_of_all_rows(line) if numbers(*line, SUMS)[4] <= 6 else None
            if due is not None:
                self.assertEqual(numbers(*line, FEWEST), due, line)
                found += 1
        self.assertGreater(found, 40)


class TheLeastIsTheLeast(unittest.TestCase):

    def test_by_trying_each(self):
        for most in (1, 13, 190, 500):
            for a in (100, 101, 577, 1000):
                due = min(c for c in range(a + 1) if 1 - Fraction(c * c, a * a) <= Fraction(most, 1000))
                self.assertEqual(last(begin(most=most), least(a)), due)


if __name__ == "__main__":
    unittest.main()
