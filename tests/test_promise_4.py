"""Promise 4: fewest, set."""

import unittest

from tests.line import (
    CLEAR, FEWEST, HOLDS, ROW, SET_ROW, TAKE, WRONG, begin, die, grind, last, least, numbers, put, rod, row, run, state,
    told, want)


def dies(*widths):
    return [die(width) for width in widths]


def one_by_one(count):
    """From 1000 on, the widths of so many dies of which each takes off as much as most of 20 lets."""
    widths = [1000]
    for n in range(count):
        widths.append(last(begin(most=20), least(widths[-1])))
    return widths[1:]


class Fewest(unittest.TestCase):

    def test_one_die(self):
        self.assertEqual(numbers(begin(off=0), die(900), FEWEST), [1, 0])
        self.assertEqual(numbers(begin(off=0), die(950), die(900), FEWEST), [1, 1])

    def test_one_would_take_off_too_much(self):
        self.assertEqual(numbers(begin(want=600, off=0), *dies(600, 800), FEWEST), [2, 1, 0])
        self.assertEqual(numbers(begin(want=500, off=0), *dies(500, 600, 800), FEWEST), [3, 2, 1, 0])

    def test_just_as_much_as_most(self):
        self.assertEqual(numbers(begin(most=190, off=0), die(900), FEWEST), [1, 0])
        self.assertEqual(numbers(begin(most=189, off=0), die(900), FEWEST), [-33])

    def test_no_dies(self):
        self.assertEqual(numbers(begin(off=0), FEWEST), [-33])
        self.assertEqual(numbers(begin(rod=900, off=0), FEWEST), [0])

    def test_a_rod_that_is_as_wanted(self):
        self.assertEqual(numbers(begin(rod=900, off=0), *dies(850, 900), FEWEST), [0])
        self.assertEqual(numbers(begin(off=100), die(900), FEWEST), [0])
        self.assertEqual(numbers(begin(off=99), die(900), FEWEST), [1, 0])

    def test_a_rod_that_is_as_wanted_with_a_row_there(self):
        calls = [begin(off=0), die(900), put(0), want(1000, 0)]
        self.assertEqual(numbers(*calls, FEWEST), [0])

    def test_none_that_does(self):
        for widths, w, off in (
                ((901, 899), 900, 0), ((600,), 600, 5), ((800, 500), 500, 0), ((900, 800), 1100, 50),
                ((1100,), 1100, 0), ((911, 889), 900, 10)):
            with self.subTest(widths=widths, w=w):
                self.assertEqual(numbers(begin(want=w, off=off), *dies(*widths), FEWEST), [-33])

    def test_how_far_off(self):
        for width, as_told in ((889, [-33]), (890, [1, 0]), (910, [1, 0]), (911, [-33])):
            with self.subTest(width=width):
                self.assertEqual(numbers(begin(off=10), die(width), FEWEST), as_told)

    def test_fewer_go_ahead_of_numbers(self):
        self.assertEqual(numbers(begin(want=750, off=0), *dies(900, 800, 750), FEWEST), [1, 2])
        self.assertEqual(numbers(begin(want=600, off=0), *dies(950, 700, 800, 600), FEWEST), [2, 2, 3])

    def test_of_like_ones_the_first_by_numbers(self):
        self.assertEqual(numbers(begin(want=600, off=0), *dies(800, 600, 750), FEWEST), [2, 0, 1])
        self.assertEqual(numbers(begin(want=600, off=0), *dies(750, 600, 800), FEWEST), [2, 0, 1])
        self.assertEqual(numbers(begin(off=5), *dies(905, 900, 895), FEWEST), [1, 0])
        self.assertEqual(numbers(begin(off=5), *dies(895, 900, 905), FEWEST), [1, 0])

    def test_the_first_die_by_die_from_the_row_s_beginning(self):
        # [2, 0] has the least number in it, and ends with it: but it begins with 2.
        calls = [begin(want=600, off=5), *dies(595, 850, 800, 605)]
        self.assertEqual(last(*calls, put(1), put(0)), -33)
        self.assertEqual(told(calls + [put(2), put(0), HOLDS])[-3:], [1, 2, 1])
        self.assertEqual(numbers(*calls, FEWEST), [2, 1, 3])

    def test_the_first_at_a_later_place(self):
        calls = [begin(want=500, off=5), *dies(800, 505, 600, 610, 495)]
        self.assertEqual(numbers(*calls, FEWEST), [3, 0, 2, 1])

    def test_two_dies_alike(self):
        self.assertEqual(numbers(begin(off=0), *dies(900, 900), FEWEST), [1, 0])
        self.assertEqual(numbers(begin(want=600, off=0), *dies(600, 800, 600, 800), FEWEST), [2, 1, 0])

    def test_eight_dies_alike(self):
        self.assertEqual(numbers(begin(off=0), *dies(*[900] * 8), FEWEST), [1, 0])
        self.assertEqual(numbers(begin(want=800, off=0), *dies(*[900] * 8), FEWEST), [-33])

    def test_all_eight_dies(self):
        widths = one_by_one(8)
        order = (3, 7, 0, 5, 1, 6, 2, 4)
        calls = [begin(most=20, want=widths[-1], off=0)] + dies(*[widths[n] for n in order])
        self.assertEqual(numbers(*calls, FEWEST), [8] + [order.index(n) for n in range(8)])
        self.assertEqual(numbers(*calls, want(widths[-1] - 1, 0), FEWEST), [-33])
        self.assertEqual(numbers(*calls, rod(1001), FEWEST), [-33])
        self.assertEqual(numbers(*calls, rod(999), FEWEST), [8] + [order.index(n) for n in range(8)])

    def test_some_of_eight_dies(self):
        calls = [begin(want=400, off=0), *dies(990, 400, 980, 560, 970, 720, 960, 950)]
        self.assertEqual(numbers(*calls, FEWEST), [3, 5, 3, 1])

    def test_by_the_widths_that_dies_have_now(self):
        worn = [begin(), die(900, 100), put(0), run(81), want(900, 0)]
        self.assertEqual(numbers(*worn, FEWEST), [-33])
        self.assertEqual(numbers(*worn, want(901, 0), FEWEST), [1, 0])
        self.assertEqual(numbers(*worn, CLEAR, grind(0, 950), want(950, 0), FEWEST), [1, 0])

    def test_two_dies_alike_of_which_one_has_grown(self):
        calls = [begin(), die(900, 100), die(900), put(0), run(81), want(900, 0)]
        self.assertEqual(numbers(*calls, FEWEST), [1, 1])

    def test_a_die_grown_wider_comes_ahead(self):
        # To 637 wire goes from 900 and not from 901.
        calls = [begin(), die(900, 100), die(637), die(899), put(0)]
        self.assertEqual(numbers(*calls, want(637, 0), FEWEST), [2, 0, 1])
        self.assertEqual(numbers(*calls, run(81), want(637, 0), FEWEST), [2, 2, 1])

    def test_dies_of_the_row_are_there_too(self):
        calls = [begin(off=0), *dies(950, 900), put(0), put(1)]
        self.assertEqual(numbers(*calls, FEWEST), [1, 1])
        self.assertEqual(numbers(*calls, TAKE, FEWEST), [1, 1])

    def test_whatever_the_row_is(self):
        calls = [begin(off=0), *dies(950, 900), put(0), rod(940)]
        self.assertEqual(last(*calls, WRONG), 0)
        self.assertEqual(numbers(*calls, FEWEST), [1, 1])

    def test_by_the_rod_and_what_is_wanted_now(self):
        calls = [begin(off=0), *dies(900, 1800)]
        self.assertEqual(numbers(*calls, rod(1800), FEWEST), [-33])
        self.assertEqual(numbers(*calls, rod(1272), FEWEST), [1, 0])
        self.assertEqual(numbers(*calls, rod(2000), want(1800, 0), FEWEST), [1, 1])

    def test_it_changes_nothing(self):
        for calls in (
                [begin(off=0), *dies(950, 900), put(0)], [begin(off=0), *dies(950, 850), put(0), put(1)],
                [begin(rod=900, off=0), *dies(850, 800), put(0)]):
            with self.subTest(calls=calls):
                self.assertEqual(state(calls + [FEWEST, FEWEST]), state(calls))


class SetRow(unittest.TestCase):

    def test_answers_how_many_dies(self):
        self.assertEqual(numbers(begin(off=0), die(900), SET_ROW), [1])
        self.assertEqual(numbers(begin(want=500, off=0), *dies(500, 600, 800), SET_ROW), [3])

    def test_that_is_the_row_now(self):
        calls = [begin(want=500, off=0), *dies(500, 600, 800), SET_ROW]
        self.assertEqual(row(calls), [2, 1, 0])
        self.assertEqual(numbers(*calls, ROW), [3, 2, 1, 0])
        self.assertEqual(told(calls + [HOLDS, WRONG])[-2:], [1, -33])

    def test_in_place_of_what_was_there(self):
        calls = [begin(want=600, off=0), *dies(950, 900, 800, 600), put(0), put(1), SET_ROW]
        self.assertEqual(last(*calls), 2)
        self.assertEqual(row(calls), [2, 3])
        self.assertEqual(last(*calls, grind(0, 960)), 950)
        self.assertEqual(last(*calls, grind(2, 960)), -16)
        self.assertEqual(last(*calls, put(3)), -17)

    def test_dies_of_the_row_stay_in_it_or_not(self):
        calls = [begin(off=0), *dies(950, 900), put(0), put(1), SET_ROW]
        self.assertEqual(row(calls), [1])
        self.assertEqual(row(calls + [SET_ROW]), [1])

    def test_a_rod_that_is_as_wanted(self):
        for calls in ([begin(rod=900, off=0)], [begin(rod=900, off=0), *dies(850, 800), put(0), put(1)]):
            with self.subTest(calls=calls):
                self.assertEqual(numbers(*calls, SET_ROW), [0])
                self.assertEqual(row(calls + [SET_ROW]), [])
                self.assertEqual(last(*calls, SET_ROW, HOLDS), 1)

    def test_no_dies(self):
        self.assertEqual(numbers(begin(off=0), SET_ROW), [-33])

    def test_eight_dies(self):
        widths = one_by_one(8)
        calls = [begin(most=20, want=widths[-1], off=0)] + dies(*widths[::-1]) + [SET_ROW]
        self.assertEqual(last(*calls), 8)
        self.assertEqual(row(calls), [7, 6, 5, 4, 3, 2, 1, 0])

    def test_refused_it_leaves_the_row_as_it_was(self):
        calls = [begin(want=700, off=0), *dies(950, 900, 800), put(0), put(2)]
        self.assertEqual(numbers(*calls, SET_ROW), [-33])
        self.assertEqual(row(calls + [SET_ROW]), [0, 2])
        self.assertEqual(state(calls + [SET_ROW]), state(calls))

    def test_a_row_that_does_not_go_is_mended(self):
        calls = [begin(off=0), *dies(950, 900), put(0), rod(940), SET_ROW]
        self.assertEqual(told(calls + [HOLDS])[-2:], [1, 1])

    def test_only_the_row_is_changed(self):
        calls = [begin(), die(950, 10), die(900, 10), put(0), run(50), want(900, 0)]
        before = state(calls)
        behind = state(calls + [SET_ROW])
        self.assertEqual(behind[1], [1, 1])
        self.assertEqual(behind[2:], before[2:])
        self.assertEqual(behind[0][:6], before[0][:6])
        self.assertEqual(behind[0][6], 900)

    def test_the_row_can_be_worked_on(self):
        calls = [begin(want=600, off=0), *dies(600, 800, 590), SET_ROW]
        self.assertEqual(told(calls + [put(2), TAKE, TAKE, put(0), CLEAR])[5:], [3, 2, 0, 2, 2])
        self.assertEqual(numbers(*calls, put(2), FEWEST), [2, 1, 0])
        self.assertEqual(numbers(*calls, SET_ROW, put(2), ROW), [3, 1, 0, 2])


if __name__ == "__main__":
    unittest.main()
