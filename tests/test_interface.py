"""The calls ahead of the promises: a line's beginning, refusals, and how answers are given back."""

import copy
import unittest

from tests.line import (
    CLEAR, HOLDS, TAKE, TOP, WRONG, as_wanted, begin, die, flat, grind, last, put, rod, row, run, told, want, wanted,
    wide)
from wiredies.drawing import answers

# Each call but begin, with as many numbers as the interface gives it.
ALL_ELSE = [
    [1, 900, 100], [2, 0, 900], [3, 900], [4, 900, 0], [5, 0], [6], [7], [8], [9], [10, 1], [11, 1], [12, 1], [13],
    [14], [15], [16, 0], [17, 900], [18, 0], [19, 0], [20], [21]]


class AheadOfBegin(unittest.TestCase):

    def test_each_call_alone(self):
        for call in ALL_ELSE:
            with self.subTest(call=call):
                self.assertEqual(answers(call), [1, -11])

    def test_all_calls_behind_one_another(self):
        self.assertEqual(answers(flat(ALL_ELSE)), [1, -11] * 21)
        self.assertEqual(answers(flat(ALL_ELSE[::-1])), [1, -11] * 21)

    def test_ahead_of_every_other_refusal(self):
        for call in (die(TOP, TOP), grind(TOP, TOP), rod(TOP), want(TOP, TOP), put(TOP), TAKE, run(TOP)):
            with self.subTest(call=call):
                self.assertEqual(last(call), -11)

    def test_a_refused_begin_is_none(self):
        calls = [begin(rod=99)] + ALL_ELSE
        self.assertEqual(told(calls), [-22] + [-11] * 21)

    def test_nothing_is_kept_from_ahead_of_begin(self):
        calls = [die(900), put(0), begin(), CLEAR, put(0), die(800)]
        self.assertEqual(told(calls), [-11, -11, 0, 0, -2, 0])

    def test_begin_behind_a_refused_one(self):
        self.assertEqual(told([begin(most=0), HOLDS, begin(), HOLDS]), [-22, -11, 0, 1])


class BeginAgain(unittest.TestCase):

    worn = [begin(), die(950, 1), die(900), put(0), run(1), put(1)]

    def test_no_dies_and_an_empty_row(self):
        calls = self.worn + [begin()]
        self.assertEqual(last(*calls, CLEAR), 0)
        self.assertEqual(last(*calls, put(0)), -2)
        self.assertEqual(last(*calls, grind(0, 1000)), -2)
        self.assertEqual(last(*calls, die(700)), 0)

    def test_no_wear_is_left(self):
        self.assertEqual(wide(self.worn, 0), 951)
        self.assertEqual(wide(self.worn + [begin(), die(950, 1)], 0), 950)

    def test_its_numbers_are_new(self):
        calls = self.worn + [begin(2000, 1, 1500, 3)]
        self.assertEqual(last(*calls, rod(500)), 2000)
        self.assertEqual(wanted(calls), 1500)
        self.assertEqual(as_wanted(calls, 1503), 1)
        self.assertEqual(as_wanted(calls, 1504), 0)
        self.assertEqual(last(*calls, die(1999), put(0)), 1)
        self.assertEqual(last(*calls, die(1998), put(0)), -33)

    def test_refused_it_leaves_what_was(self):
        for wrong in (begin(rod=99), begin(most=501), begin(want=10001), begin(off=1001)):
            with self.subTest(wrong=wrong):
                calls = self.worn + [wrong]
                self.assertEqual(last(*calls), -22)
                self.assertEqual(row(calls), [0, 1])
                self.assertEqual(wide(calls, 0), 951)
                self.assertEqual(wide(calls, 1), 900)
                self.assertEqual(last(*calls, rod(500)), 1000)
                self.assertEqual(wanted(calls), 900)
                self.assertEqual(as_wanted(calls, 1900), 1)
                self.assertEqual(as_wanted(calls, 1901), 0)
                self.assertEqual(last(*calls, CLEAR, die(708), put(2)), 1)
                self.assertEqual(last(*calls, CLEAR, die(707), put(2)), -33)


class HandedInAndGivenBack(unittest.TestCase):

    line = flat([
        begin(off=100), die(900, 100), die(850, 7), put(0), put(1), HOLDS, WRONG, run(20), TAKE, grind(1, 900),
        rod(800), want(700, 5), put(9), WRONG, CLEAR, run(0), TAKE])

    def test_one_count_ahead_of_each_answer(self):
        self.assertEqual(answers(self.line), [
            1, 0, 1, 0, 1, 1, 1, 1, 1, 2, 1, 1, 1, -33, 1, 27, 1, 1, 1, 853, 1, 1000, 1, 900, 1, -2, 1, 0, 1, 1,
            1, -22, 1, -6])

    def test_one_call_is_a_line(self):
        self.assertEqual(answers(begin()), [1, 0])

    def test_eighty_calls(self):
        self.assertEqual(told([begin()] + [die(900)] * 79), [0] + list(range(8)) + [-28] * 71)

    def test_the_list_stays_as_it_was(self):
        handed = copy.deepcopy(self.line)
        answers(handed)
        self.assertEqual(handed, self.line)

    def test_the_list_is_not_changed_for_a_while_either(self):
        class Kept(list):
            def refuse(self, *given):
                raise AssertionError("the list was changed")
            __setitem__ = __delitem__ = __iadd__ = __imul__ = refuse
            append = extend = insert = pop = remove = clear = sort = reverse = refuse

        self.assertEqual(answers(Kept(self.line)), answers(self.line))

    def test_a_second_time_as_the_first(self):
        first = answers(self.line)
        self.assertEqual(answers(self.line), first)
        answers(flat([begin(), die(900), put(0)]))
        self.assertEqual(answers(HOLDS), [1, -11])
        self.assertEqual(answers(self.line), first)

    def test_what_is_given_back_is_new_each_time(self):
        first = answers(self.line)
        kept = list(first)
        second = answers(self.line)
        second.append(5)
        self.assertEqual(first, kept)

    def test_a_list_of_whole_numbers(self):
        given = answers(self.line)
        self.assertIs(type(given), list)
        for number in given:
            self.assertIs(type(number), int)


if __name__ == "__main__":
    unittest.main()
