"""The corners that the document names."""

import unittest

from tests.line import CLEAR, HOLDS, TAKE, WRONG, begin, die, last, put, rod, row, run, told, want, wide


class Corners(unittest.TestCase):

    def test_a_rod_that_is_as_wanted_already(self):
        calls = [begin(rod=900, off=0), die(900), HOLDS, WRONG, put(0), run(7), TAKE, CLEAR]
        self.assertEqual(told(calls)[2:], [1, -33, -33, 7, -6, 0])

    def test_a_rod_that_is_as_wanted_already_and_drawn_further(self):
        calls = [begin(rod=900, off=10), die(895), die(880), put(0), HOLDS, put(1), HOLDS, run(1)]
        self.assertEqual(told(calls)[3:], [1, 1, 2, 0, -33])

    def test_two_dies_alike(self):
        calls = [begin(), die(900), die(900)]
        self.assertEqual(last(*calls), 1)
        self.assertEqual(told(calls + [put(1), put(0), put(1)])[3:], [1, -33, -17])
        self.assertEqual(row(calls + [put(1), put(0)]), [1])

    def test_two_dies_alike_wear_each_by_itself(self):
        calls = [begin(), die(900, 10), die(900, 10), put(1), run(10), CLEAR]
        self.assertEqual([wide(calls, 0), wide(calls, 1)], [900, 901])
        # Now they aren't alike, and wire goes from the one to the other.
        self.assertEqual(told(calls + [put(1), put(0)])[-2:], [1, 2])

    def test_a_die_in_a_row_that_has_grown_as_wide_as_the_one_before(self):
        calls = [begin(), die(901), die(900, 100), put(0), put(1)]
        self.assertEqual(last(*calls, run(80)), 98)
        self.assertEqual(last(*calls, run(81)), -61)
        self.assertEqual(last(*calls, run(200)), -61)

    def test_both_dies_of_a_row_grow(self):
        # The second alone would be refused: together they stay one apart.
        calls = [begin(), die(901, 99), die(900, 100), put(0), put(1), run(81)]
        self.assertEqual(last(*calls), 100)
        self.assertEqual([wide(calls, 0), wide(calls, 1)], [902, 901])
        self.assertEqual(last(*calls, HOLDS), 1)

    def test_a_die_in_a_row_as_wide_as_the_rod(self):
        calls = [begin(), die(900, 100), put(0), run(81)]
        self.assertEqual(told(calls + [rod(901), WRONG, HOLDS])[-2:], [0, 0])
        self.assertEqual(told(calls + [rod(902), WRONG, HOLDS])[-2:], [-33, 1])

    def test_a_run_by_which_one_die_just_becomes_wider(self):
        calls = [begin(off=1), die(950, 100), die(900, 100), put(0), put(1)]
        self.assertEqual(last(*calls, run(81)), 100)
        self.assertEqual([wide(calls + [run(81)], d) for d in range(2)], [950, 901])
        self.assertEqual([wide(calls + [run(80)], d) for d in range(2)], [950, 900])
        self.assertEqual(last(*calls, want(900, 0), run(81)), -61)
        self.assertEqual(last(*calls, want(901, 0), run(81)), -33)

    def test_most_of_500(self):
        calls = [begin(most=500, want=708), die(708), die(707), put(1), put(0), HOLDS]
        self.assertEqual(told(calls)[3:], [-33, 1, 1])

    def test_a_row_that_goes_and_is_not_as_wanted(self):
        calls = [begin(want=800, off=0), die(900), put(0), WRONG, HOLDS, run(1)]
        self.assertEqual(told(calls)[2:], [1, -33, 0, -33])

    def test_metres_that_come_to_no_whole_one_more(self):
        # Of 4 metres there come 4 through it, and 938 of 1000 of one more.
        calls = [begin(), die(900, 5), put(0)]
        self.assertEqual(last(*calls, run(4)), 4)
        self.assertEqual(wide(calls + [run(4)], 0), 900)
        self.assertEqual(last(*calls, run(4), run(1)), 1)
        self.assertEqual(wide(calls + [run(4), run(1)], 0), 901)


if __name__ == "__main__":
    unittest.main()
