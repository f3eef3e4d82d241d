"""What holds of every line: drawn by a seeded choice of calls, so that each time they are the same."""

import random
import unittest

from tests.line import CLEAR, HOLDS, TAKE, TOP, WRONG, begin, die, grind, put, rod, row, run, told, want, wide

LINES = 300
CALLS = 40


def some_width(choice):
    return choice.choice((99, 100, 10000, 10001, TOP) + tuple(choice.randrange(850, 1101) for n in range(20)))


def some_call(choice):
    kind = choice.choice(("die", "die", "grind", "rod", "want", "put", "put", "put", "take", "clear", "holds",
                          "wrong", "run", "run", "run", "begin"))
    d = choice.randrange(6)
    if kind == "begin" and choice.randrange(4) == 0:
        return begin(some_width(choice), choice.choice((0, 100, 500)), some_width(choice), 100)
    if kind == "die":
        return die(some_width(choice), choice.choice((0, 1, 20, 100, 1000, 100001)))
    if kind == "grind":
        return grind(d, some_width(choice))
    if kind == "rod":
        return rod(some_width(choice))
    if kind == "want":
        return want(some_width(choice), choice.choice((0, 50, 500, 1001)))
    if kind == "put":
        return put(d)
    if kind == "run":
        return run(choice.choice((0, 1, 7, 100, 1000, 20000, 20001)))
    return {"take": TAKE, "clear": CLEAR, "holds": HOLDS, "wrong": WRONG}.get(kind, HOLDS)


def some_line(seed):
    choice = random.Random(seed)
    begun = begin(1000, choice.choice((20, 100, 500)), 950, choice.choice((0, 20, 1000)))
    return [begun] + [some_call(choice) for n in range(CALLS)]


def runs(line):
    """Each run of the line that isn't refused: the calls ahead of it, it, and its answer."""
    given = told(line)
    return [(line[:k], call, given[k]) for k, call in enumerate(line) if call[0] == 10 and given[k] >= 0]


class WhatHolds(unittest.TestCase):

    lines = [some_line(seed) for seed in range(LINES)]

    def test_the_lines_show_each_call_both_ways(self):
        seen = set()
        for line in self.lines:
            seen.update((call[0], number if number < 0 else 0) for call, number in zip(line, told(line)))
        self.assertEqual(sorted(seen), sorted([
            (0, 0), (0, -22), (1, 0), (1, -22), (1, -28), (2, 0), (2, -2), (2, -22), (2, -16), (2, -33), (3, 0),
            (3, -22), (4, 0), (4, -22), (5, 0), (5, -2), (5, -17), (5, -33), (6, 0), (6, -6), (7, 0), (8, 0),
            (9, 0), (9, -33), (10, 0), (10, -22), (10, -33), (10, -61)]))

    def test_a_refused_call_changes_nothing(self):
        for line in self.lines:
            given = told(line)
            taken = [call for call, number in zip(line, given) if number >= 0]
            self.assertEqual(told(taken), [number for number in given if number >= 0])

    def test_what_is_run_holds_ahead_and_behind(self):
        for line in self.lines:
            for ahead, call, out in runs(line):
                self.assertEqual(told(ahead + [HOLDS, call, HOLDS])[-3:], [1, out, 1])

    def test_dies_only_get_wider(self):
        for line in self.lines[:60]:
            begun = [k for k, call in enumerate(line) if call[0] == 0 and told(line)[k] == 0][-1]
            before = {}
            for k in range(begun + 1, len(line) + 1):
                now = {d: wide(line[:k], d) for d in range(8)}
                for d, width in before.items():
                    if width != -2:
                        self.assertGreaterEqual(now[d], width)
                before = now

    def test_thinner_is_longer(self):
        for line in self.lines:
            for ahead, call, out in runs(line):
                self.assertGreaterEqual(out, call[1])
                if not row(ahead):
                    self.assertEqual(out, call[1])

    def test_wrong_and_holds_agree(self):
        for line in self.lines:
            holds, wrong = told(line + [HOLDS, WRONG])[-2:]
            if holds == 1:
                self.assertEqual(wrong, -33)


if __name__ == "__main__":
    unittest.main()
