"""The calls ahead of the promises: a line's beginning, refusals, and how answers are given back."""

import copy
import time
import unittest

from tests.line import (
    CLEAR, FEWEST, HOLDS, LONGEST, ROW, SET_ROW, SUMS, TAKE, TOP, WRONG, as_wanted, begin, die, flat, grind, last,
    least, left, lists, may, numbers, out, put, rod, row, run, size, state, takes, told, want, wanted, wide)
from wiredies.drawing import answers

# Each call but begin, with as many numbers as the interface gives it.
ALL_ELSE = [
    [1, 900, 100], [2, 0, 900], [3, 900], [4, 900, 0], [5, 0], [6], [7], [8], [9], [10, 1], [11, 1], [12, 1], [13],
    [14], [15], [16, 0], [17, 900], [18, 0], [19, 0], [20], [21]]


class AheadOfBegin(unittest.TestCase):

    def test_each_call_alone(self):
        for call in ALL_ELSE:
            with self.subTest(call=call):
                self.assertEqual(answers(call), [1, -11])

    def test_all_calls_behind_one_another(self):
        self.assertEqual(answers(flat(ALL_ELSE)), [1, -11] * 21)
        self.assertEqual(answers(flat(ALL_ELSE[::-1])), [1, -11] * 21)

    def test_ahead_of_every_other_refusal(self):
        for call in (
                die(TOP, TOP), grind(TOP, TOP), rod(TOP), want(TOP, TOP), put(TOP), TAKE, run(TOP), may(0), may(TOP),
                out(TOP), takes(TOP), least(0), least(TOP), size(TOP), left(TOP)):
            with self.subTest(call=call):
                self.assertEqual(last(call), -11)
                self.assertEqual(last(begin(TOP, TOP, TOP, TOP), call), -11)

    def test_a_refused_begin_is_none(self):
        calls = [begin(rod=99)] + ALL_ELSE
        self.assertEqual(told(calls), [-22] + [-11] * 21)

    def test_nothing_is_kept_from_ahead_of_begin(self):
        calls = [die(900), put(0), begin(), CLEAR, put(0), die(800)]
        self.assertEqual(told(calls), [-11, -11, 0, 0, -2, 0])

    def test_begin_behind_a_refused_one(self):
        self.assertEqual(told([begin(most=0), HOLDS, begin(), HOLDS]), [-22, -11, 0, 1])


class BeginAgain(unittest.TestCase):

    worn = [begin(), die(950, 1), die(900), put(0), run(1), put(1)]

    def test_no_dies_and_an_empty_row(self):
        calls = self.worn + [begin()]
        self.assertEqual(last(*calls, CLEAR), 0)
        self.assertEqual(last(*calls, put(0)), -2)
        self.assertEqual(last(*calls, grind(0, 1000)), -2)
        self.assertEqual(last(*calls, die(700)), 0)

    def test_no_wear_is_left(self):
        self.assertEqual(wide(self.worn, 0), 951)
        self.assertEqual(wide(self.worn + [begin(), die(950, 1)], 0), 950)

    def test_its_numbers_are_new(self):
        calls = self.worn + [begin(2000, 1, 1500, 3)]
        self.assertEqual(last(*calls, rod(500)), 2000)
        self.assertEqual(wanted(calls), 1500)
        self.assertEqual(as_wanted(calls, 1503), 1)
        self.assertEqual(as_wanted(calls, 1504), 0)
        self.assertEqual(last(*calls, die(1999), put(0)), 1)
        self.assertEqual(last(*calls, die(1998), put(0)), -33)

    def test_refused_it_leaves_what_was(self):
        for wrong in (begin(rod=99), begin(most=501), begin(want=10001), begin(off=1001)):
            with self.subTest(wrong=wrong):
                calls = self.worn + [wrong]
                self.assertEqual(last(*calls), -22)
                self.assertEqual(row(calls), [0, 1])
                self.assertEqual(wide(calls, 0), 951)
                self.assertEqual(wide(calls, 1), 900)
                self.assertEqual(last(*calls, rod(500)), 1000)
                self.assertEqual(wanted(calls), 900)
                self.assertEqual(as_wanted(calls, 1900), 1)
                self.assertEqual(as_wanted(calls, 1901), 0)
                self.assertEqual(last(*calls, CLEAR, die(708), put(2)), 1)
                self.assertEqual(last(*calls, CLEAR, die(707), put(2)), -33)


class HandedInAndGivenBack(unittest.TestCase):

    line = flat([
        begin(off=100), die(900, 100), die(850, 7), put(0), put(1), HOLDS, WRONG, run(20), TAKE, grind(1, 900),
        rod(800), want(700, 5), put(9), WRONG, CLEAR, run(0), TAKE])

    def test_one_count_ahead_of_each_answer(self):
        self.assertEqual(answers(self.line), [
            1, 0, 1, 0, 1, 1, 1, 1, 1, 2, 1, 1, 1, -33, 1, 27, 1, 1, 1, 853, 1, 1000, 1, 900, 1, -2, 1, 0, 1, 1,
            1, -22, 1, -6])

    # Each call but begin, with what is answered where nothing speaks against it.
    ready = [begin(), die(900, 100), die(800, 7), want(800, 5), put(0), put(1)]
    each = [
        (die(700, 5), [2]), (grind(2, 1), [-2]), (rod(900), [1000]), (want(900, 0), [800]), (put(2), [-2]),
        (TAKE, [1]), (CLEAR, [2]), (HOLDS, [1]), (WRONG, [-33]), (run(1), [1]), (may(1), [1]), (out(64), [100]),
        (LONGEST, [0]), (FEWEST, [1, 1]), (SET_ROW, [1]), (takes(1), [0, 17, 81]), (least(1000), [708]),
        (size(1), [800, 800, 7, 0]), (left(1), [7]), (ROW, [2, 0, 1]), (SUMS, [1000, 500, 800, 5, 2, 0, 800])]

    def test_each_call_by_its_number(self):
        self.assertEqual([call[0] for call, as_told in self.each], list(range(1, 22)))
        for call, as_told in self.each:
            with self.subTest(call=call):
                self.assertEqual(answers(flat(self.ready + [call]))[12:], [len(as_told)] + as_told)

    def test_answers_of_many_numbers_behind_one_another(self):
        calls = self.ready + [ROW, FEWEST, takes(2), takes(0), size(0), SUMS, ROW, CLEAR, ROW, SUMS, size(2)]
        self.assertEqual(answers(flat(calls))[12:], [
            3, 2, 0, 1, 2, 1, 1, 1, -2, 3, 0, 19, 100, 4, 900, 900, 100, 0, 7, 1000, 500, 800, 5, 2, 0, 800,
            3, 2, 0, 1, 1, 2, 1, 0, 7, 1000, 500, 800, 5, 2, 0, 1000, 1, -2])

    def test_arguments_as_great_as_they_may_be(self):
        for call, refusal in (
                (begin(TOP, TOP, TOP, TOP), -22), (die(TOP, TOP), -22), (grind(TOP, TOP), -2), (grind(0, TOP), -22),
                (rod(TOP), -22), (want(TOP, TOP), -22), (put(TOP), -2), (run(TOP), -22), (may(TOP), -22),
                (out(TOP), -22), (takes(TOP), -2), (least(TOP), -22), (size(TOP), -2), (left(TOP), -2)):
            with self.subTest(call=call):
                self.assertEqual(numbers(*self.ready, call), [refusal])
                self.assertEqual(state(self.ready + [call]), state(self.ready))

    def test_one_call_is_a_line(self):
        self.assertEqual(answers(begin()), [1, 0])

    def test_eighty_calls(self):
        self.assertEqual(told([begin()] + [die(900)] * 79), [0] + list(range(8)) + [-28] * 71)

    def test_the_list_stays_as_it_was(self):
        for line in (self.line, flat(self.ready + [call for call, as_told in self.each])):
            handed = copy.deepcopy(line)
            answers(handed)
            self.assertEqual(handed, line)

    def test_the_list_is_not_changed_for_a_while_either(self):
        class Kept(list):
            def refuse(self, *given):
                raise AssertionError("the list was changed")
            __setitem__ = __delitem__ = __iadd__ = __imul__ = refuse
            append = extend = insert = pop = remove = clear = sort = reverse = refuse

        for line in (self.line, flat(self.ready + [call for call, as_told in self.each])):
            self.assertEqual(answers(Kept(line)), answers(line))

    def test_a_second_time_as_the_first(self):
        first = answers(self.line)
        self.assertEqual(answers(self.line), first)
        answers(flat([begin(), die(900), put(0), run(5)]))
        self.assertEqual(answers(HOLDS), [1, -11])
        self.assertEqual(answers(SUMS), [1, -11])
        self.assertEqual(lists([begin(), SUMS, ROW])[1:], [[1000, 500, 900, 1000, 0, 0, 1000], [0]])
        self.assertEqual(answers(self.line), first)

    def test_what_is_given_back_is_new_each_time(self):
        first = answers(self.line)
        kept = list(first)
        second = answers(self.line)
        second.append(5)
        self.assertEqual(first, kept)

    def test_a_list_of_whole_numbers(self):
        every = flat([call for call, as_told in self.each])
        for line in (self.line, flat(self.ready) + every, every):
            given = answers(line)
            self.assertIs(type(given), list)
            for number in given:
                self.assertIs(type(number), int)


class GreatestLength(unittest.TestCase):

    # From each of these wire goes to each narrower one, so that each choice of them is a row that goes.
    eight = [die(width, 1) for width in (990, 980, 970, 960, 950, 940, 930, 920)]
    seconds = 20

    def answered_soon(self, line):
        begun = time.monotonic()
        given = answers(line)
        self.assertLess(time.monotonic() - begun, self.seconds)
        return given

    def test_eighty_calls_of_fewest_longest_and_least(self):
        ahead = [begin(want=920, off=0)] + self.eight
        for asked, as_told in ((FEWEST, [2, 1, 7]), (LONGEST, [1, 0]), (least(10000), [1, 7072]), (SET_ROW, [1, 1])):
            with self.subTest(asked=asked):
                calls = ahead + [SET_ROW] + [asked] * 70
                self.assertEqual(len(calls), 80)
                self.assertEqual(self.answered_soon(flat(calls))[20:], as_told * 70)

    def test_eighty_calls_where_no_row_does(self):
        calls = [begin(want=919, off=0)] + self.eight + [FEWEST, SET_ROW] * 35 + [FEWEST]
        self.assertEqual(self.answered_soon(flat(calls))[18:], [1, -33] * 71)

    def test_longest_of_eight_dies_in_the_row(self):
        calls = [begin(want=920, off=0)] + self.eight + [put(d) for d in range(8)] + [LONGEST] * 63
        self.assertEqual(self.answered_soon(flat(calls))[34:], [1, 0] * 63)

    def test_all_mixed(self):
        asked = [FEWEST, LONGEST, least(100), SUMS, ROW, size(7), may(20000)] * 10
        calls = [begin(want=920, off=0)] + self.eight + [SET_ROW] + asked
        self.assertEqual(len(calls), 80)
        self.assertEqual(self.answered_soon(flat(calls))[20:], [
            2, 1, 7, 1, 0, 1, 71, 7, 1000, 500, 920, 0, 8, 0, 920, 2, 1, 7, 4, 920, 920, 1, 0, 1, 0] * 10)

    def test_as_many_numbers_as_may_be(self):
        self.assertEqual(self.answered_soon(begin() * 80), [1, 0] * 80)
        self.assertEqual(self.answered_soon(begin() * 120), [1, 0] * 120)
        self.assertEqual(self.answered_soon([TOP if n % 5 else 0 for n in range(600)]), [1, -22] * 120)


if __name__ == "__main__":
    unittest.main()
