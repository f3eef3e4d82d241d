"""The corners that the document names."""

import unittest

from tests.line import (
    CLEAR, FEWEST, HOLDS, LONGEST, ROW, SET_ROW, SUMS, TAKE, WRONG, begin, die, last, least, left, lists, may, numbers,
    out, put, rod, row, run, size, takes, told, want, wide)


class Corners(unittest.TestCase):

    def test_a_rod_that_is_as_wanted_already(self):
        calls = [begin(rod=900, off=0), die(900), HOLDS, WRONG, put(0), run(7), TAKE, CLEAR]
        self.assertEqual(told(calls)[2:], [1, -33, -33, 7, -6, 0])

    def test_a_rod_that_is_as_wanted_already_and_drawn_further(self):
        calls = [begin(rod=900, off=10), die(895), die(880), put(0), HOLDS, put(1), HOLDS, run(1)]
        self.assertEqual(told(calls)[3:], [1, 1, 2, 0, -33])

    def test_two_dies_alike(self):
        calls = [begin(), die(900), die(900)]
        self.assertEqual(last(*calls), 1)
        self.assertEqual(told(calls + [put(1), put(0), put(1)])[3:], [1, -33, -17])
        self.assertEqual(row(calls + [put(1), put(0)]), [1])

    def test_two_dies_alike_wear_each_by_itself(self):
        calls = [begin(), die(900, 10), die(900, 10), put(1), run(10), CLEAR]
        self.assertEqual([wide(calls, 0), wide(calls, 1)], [900, 901])
        # Now they aren't alike, and wire goes from the one to the other.
        self.assertEqual(told(calls + [put(1), put(0)])[-2:], [1, 2])

    def test_a_die_in_a_row_that_has_grown_as_wide_as_the_one_before(self):
        calls = [begin(), die(901), die(900, 100), put(0), put(1)]
        self.assertEqual(last(*calls, run(80)), 98)
        self.assertEqual(last(*calls, run(81)), -61)
        self.assertEqual(last(*calls, run(200)), -61)

    def test_both_dies_of_a_row_grow(self):
        # The second alone would be refused: together they stay one apart.
        calls = [begin(), die(901, 99), die(900, 100), put(0), put(1), run(81)]
        self.assertEqual(last(*calls), 100)
        self.assertEqual([wide(calls, 0), wide(calls, 1)], [902, 901])
        self.assertEqual(last(*calls, HOLDS), 1)

    def test_a_die_in_a_row_as_wide_as_the_rod(self):
        calls = [begin(), die(900, 100), put(0), run(81)]
        self.assertEqual(told(calls + [rod(901), WRONG, HOLDS])[-2:], [0, 0])
        self.assertEqual(told(calls + [rod(902), WRONG, HOLDS])[-2:], [-33, 1])

    def test_a_run_by_which_one_die_just_becomes_wider(self):
        calls = [begin(off=1), die(950, 100), die(900, 100), put(0), put(1)]
        self.assertEqual(last(*calls, run(81)), 100)
        self.assertEqual([wide(calls + [run(81)], d) for d in range(2)], [950, 901])
        self.assertEqual([wide(calls + [run(80)], d) for d in range(2)], [950, 900])
        self.assertEqual(last(*calls, want(900, 0), run(81)), -61)
        self.assertEqual(last(*calls, want(901, 0), run(81)), -33)

    def test_most_of_500(self):
        calls = [begin(most=500, want=708), die(708), die(707), put(1), put(0), HOLDS]
        self.assertEqual(told(calls)[3:], [-33, 1, 1])

    def test_a_row_that_goes_and_is_not_as_wanted(self):
        calls = [begin(want=800, off=0), die(900), put(0), WRONG, HOLDS, run(1)]
        self.assertEqual(told(calls)[2:], [1, -33, 0, -33])

    def test_metres_that_come_to_no_whole_one_more(self):
        # Of 4 metres there come 4 through it, and 938 of 1000 of one more.
        calls = [begin(), die(900, 5), put(0)]
        self.assertEqual(last(*calls, run(4)), 4)
        self.assertEqual(wide(calls + [run(4)], 0), 900)
        self.assertEqual(last(*calls, run(4), run(1)), 1)
        self.assertEqual(wide(calls + [run(4), run(1)], 0), 901)


class CornersAsked(unittest.TestCase):
    """The corners, as the calls show them that change nothing, and set."""

    def test_a_rod_that_is_as_wanted_already(self):
        calls = [begin(rod=900, off=0), die(850), may(1), out(7), LONGEST, FEWEST, SET_ROW, ROW, takes(0), SUMS]
        self.assertEqual(lists(calls)[2:], [
            [1], [7], [20000], [0], [0], [0], [-2], [900, 500, 900, 0, 1, 0, 900]])

    def test_a_rod_that_is_as_wanted_already_and_drawn_further(self):
        calls = [begin(rod=900, off=10), die(895), put(0)]
        self.assertEqual(lists(calls + [may(1), FEWEST, SET_ROW, ROW])[3:], [[1], [0], [0], [0]])

    def test_two_dies_alike(self):
        calls = [begin(off=0), die(900, 10), die(900, 20), FEWEST, put(1), FEWEST, SET_ROW, ROW, size(0), size(1)]
        self.assertEqual(lists(calls)[3:], [
            [1, 0], [1], [1, 0], [1], [1, 0], [900, 900, 10, 0], [900, 900, 20, 0]])

    def test_a_die_in_a_row_that_has_grown_as_wide_as_the_one_before(self):
        calls = [begin(), die(901), die(900, 100), put(0), put(1)]
        self.assertEqual(told(calls + [may(80), may(81), LONGEST, out(81)])[5:], [1, 0, 0, 100])
        # Worn out of that row, it's as wide as the one before would be: no row has both.
        worn = [begin(), die(901), die(900, 100), put(1), run(81), CLEAR]
        self.assertEqual([numbers(*worn, size(d))[0] for d in range(2)], [901, 901])
        self.assertEqual(told(worn + [put(0), put(1)])[-2:], [1, -33])
        self.assertEqual(numbers(*worn, want(901, 0), FEWEST), [1, 0])

    def test_a_die_in_a_row_as_wide_as_the_rod(self):
        calls = [begin(), die(900, 100), put(0), run(81), rod(901)]
        self.assertEqual(lists(calls + [takes(0), may(1), LONGEST, out(7), FEWEST])[5:], [[-33], [0], [-33], [7], [0]])

    def test_a_run_by_which_one_die_just_becomes_wider(self):
        calls = [begin(off=1), die(950, 100), die(900, 100), put(0), put(1)]
        asked = [size(0), left(0), size(1), left(1)]
        self.assertEqual(lists(calls + asked)[5:], [[950, 950, 100, 0], [100], [900, 900, 100, 0], [100]])
        self.assertEqual(lists(calls + [run(80)] + asked)[6:], [[950, 950, 100, 88], [12], [900, 900, 100, 98], [2]])
        self.assertEqual(lists(calls + [run(81)] + asked)[6:], [[950, 950, 100, 89], [11], [901, 900, 100, 100], [100]])
        self.assertEqual(told(calls + [run(80), may(1), may(2), want(900, 0), may(1), may(2)])[6:], [1, 1, 900, 1, 0])

    def test_most_of_500(self):
        calls = [begin(most=500, want=707, off=1), die(707), die(708)]
        self.assertEqual(lists(calls + [least(1000), FEWEST])[3:], [[708], [1, 1]])
        self.assertEqual(numbers(*calls, want(707, 0), FEWEST), [2, 1, 0])
        self.assertEqual(numbers(*calls, put(1), takes(0)), [0, 31171, 62500])

    def test_a_row_that_goes_and_is_not_as_wanted(self):
        calls = [begin(want=800, off=0), die(900), put(0)]
        self.assertEqual(lists(calls + [may(1), out(81), LONGEST, FEWEST, SET_ROW, ROW, takes(0)])[3:], [
            [0], [100], [-33], [-33], [-33], [1, 0], [0, 19, 100]])

    def test_metres_that_come_to_no_whole_one_more(self):
        calls = [begin(), die(900, 5), put(0)]
        self.assertEqual(told(calls + [out(0), out(1), out(2), out(3), out(4), out(5)])[3:], [0, 1, 2, 3, 4, 6])
        self.assertEqual(lists(calls + [run(4), size(0), left(0), SUMS])[4:], [
            [900, 900, 5, 4], [1], [1000, 500, 900, 1000, 1, 4, 900]])


if __name__ == "__main__":
    unittest.main()
