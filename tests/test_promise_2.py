"""Promise 2: put, take, clear, holds, wrong."""

import unittest

from tests.line import CLEAR, HOLDS, TAKE, TOP, WRONG, begin, die, grind, last, put, rod, row, run, told, want, wide
from wiredies.bench import Bench


def goes(rod_width, width, most):
    """Whether put lets wire go from the rod to a die of that width."""
    return last(begin(rod=rod_width, most=most), die(width), put(0)) == 1


class Put(unittest.TestCase):

    three = [begin(), die(900), die(800), die(700)]

    def test_answers_how_many_are_in_the_row(self):
        self.assertEqual(told(self.three + [put(0), put(1), put(2)])[4:], [1, 2, 3])

    def test_it_is_the_last(self):
        self.assertEqual(row(self.three + [put(0), put(2)]), [0, 2])
        self.assertEqual(row(self.three + [put(0), put(1), put(2)]), [0, 1, 2])

    def test_in_an_order_other_than_the_numbers(self):
        calls = [begin(), die(700), die(900), die(800), put(1), put(2), put(0)]
        self.assertEqual(told(calls)[4:], [1, 2, 3])
        self.assertEqual(row(calls), [1, 2, 0])

    def test_all_eight(self):
        calls = [begin()] + [die(990 - 10 * d) for d in range(8)] + [put(d) for d in range(8)]
        self.assertEqual(told(calls)[9:], [1, 2, 3, 4, 5, 6, 7, 8])

    def test_no_such_die(self):
        for d in (3, 8, TOP):
            with self.subTest(d=d):
                self.assertEqual(last(*self.three, put(d)), -2)
        self.assertEqual(last(begin(), put(0)), -2)

    def test_in_the_row_already(self):
        calls = self.three + [put(0), put(1)]
        self.assertEqual(last(*calls, put(1)), -17)
        # Wire wouldn't go to it either, and this is told first.
        self.assertEqual(last(*calls, put(0)), -17)

    def test_wire_does_not_go(self):
        self.assertEqual(last(*self.three, put(1), put(0)), -33)
        self.assertEqual(last(begin(rod=900), die(900), put(0)), -33)
        self.assertEqual(last(begin(rod=900), die(901), put(0)), -33)

    def test_from_the_last_die_not_from_the_rod(self):
        # From 1000 wire doesn't go to 600, from 800 it does.
        calls = [begin(), die(800), die(600)]
        self.assertEqual(last(*calls, put(1)), -33)
        self.assertEqual(last(*calls, put(0), put(1)), 2)

    def test_by_the_width_that_the_die_has_now(self):
        worn = [begin(), die(950, 100), put(0), run(100), TAKE]
        self.assertEqual(wide(worn, 0), 951)
        self.assertEqual(last(*worn, rod(951), put(0)), -33)
        self.assertEqual(last(*worn, rod(952), put(0)), 1)
        self.assertEqual(last(*worn, die(950), put(0), put(1)), 2)
        self.assertEqual(last(*worn, grind(0, 999), put(0)), 1)

    def test_by_the_rod_that_is_there_now(self):
        calls = [begin(), rod(5000), die(900), die(4000)]
        self.assertEqual(last(*calls, put(0)), -33)
        self.assertEqual(last(*calls, put(1)), 1)

    def test_a_row_that_does_not_go_can_grow(self):
        calls = self.three + [put(0), rod(500), put(1)]
        self.assertEqual(told(calls)[-3:], [1, 1000, 2])
        self.assertEqual(last(*calls, WRONG), 0)

    def test_need_not_be_as_wanted(self):
        self.assertEqual(last(begin(want=5000, off=0), die(900), put(0)), 1)

    def test_refused_it_changes_nothing(self):
        for call in (put(3), put(0), put(1)):
            with self.subTest(call=call):
                calls = [begin(), die(900), die(950), die(800), put(0), call]
                self.assertLess(last(*calls), 0)
                self.assertEqual(row(calls), [0])


class ByOneDie(unittest.TestCase):

    def test_no_more_than_most(self):
        self.assertTrue(goes(1000, 895, 200))
        self.assertFalse(goes(1000, 894, 200))

    def test_just_as_much_as_most(self):
        self.assertTrue(goes(1000, 900, 190))
        self.assertFalse(goes(1000, 899, 190))
        self.assertFalse(goes(1000, 900, 189))
        self.assertTrue(goes(10000, 8000, 360))
        self.assertFalse(goes(10000, 7999, 360))

    def test_only_narrower(self):
        for width in (100, 1000, 10000):
            with self.subTest(width=width):
                self.assertFalse(goes(width, width, 500))
        self.assertTrue(goes(10000, 9999, 1))
        self.assertFalse(goes(9999, 10000, 500))

    def test_most_of_1(self):
        self.assertTrue(goes(10000, 9995, 1))
        self.assertFalse(goes(10000, 9994, 1))
        # So narrow, there is no width to which one of a thousand parts leads.
        self.assertFalse(goes(101, 100, 1))

    def test_most_of_500(self):
        # Twice the narrower's square is one more or one less than the wider's square.
        for wider, narrower, as_told in (
                (239, 169, True), (577, 408, False), (1393, 985, True), (3363, 2378, False), (8119, 5741, True)):
            with self.subTest(wider=wider):
                self.assertEqual(abs(2 * narrower * narrower - wider * wider), 1)
                self.assertEqual(goes(wider, narrower, 500), as_told)
                self.assertFalse(goes(wider, narrower, 499))
                self.assertTrue(goes(wider, narrower + 1, 500))
                self.assertFalse(goes(wider, narrower - 1, 500))


class Take(unittest.TestCase):

    three = [begin(), die(700), die(900), die(800), put(1), put(2), put(0)]

    def test_the_last_one_first(self):
        self.assertEqual(told(self.three + [TAKE, TAKE, TAKE, TAKE])[7:], [0, 2, 1, -6])

    def test_it_is_not_in_the_row_any_more(self):
        calls = self.three + [TAKE]
        self.assertEqual(row(calls), [1, 2])
        self.assertEqual(last(*calls, put(0)), 3)
        self.assertEqual(last(*calls, grind(0, 750)), 700)
        self.assertEqual(last(*calls, grind(2, 850)), -16)

    def test_an_empty_row(self):
        self.assertEqual(told([begin(), TAKE, die(900), TAKE]), [0, -6, 0, -6])


class Clear(unittest.TestCase):

    def test_answers_how_many_were_in_the_row(self):
        dies = [begin(), die(900), die(800), die(700)]
        for count in range(4):
            with self.subTest(count=count):
                calls = dies + [put(d) for d in range(count)] + [CLEAR]
                self.assertEqual(last(*calls), count)
                self.assertEqual(last(*calls, CLEAR), 0)

    def test_the_row_is_empty_then(self):
        calls = [begin(), die(900), die(800), put(0), put(1), CLEAR]
        self.assertEqual(last(*calls, TAKE), -6)
        self.assertEqual(last(*calls, put(1)), 1)
        self.assertEqual(last(*calls, grind(0, 950)), 900)

    def test_dies_and_their_wear_stay(self):
        calls = [begin(), die(950, 100), put(0), run(100), CLEAR]
        self.assertEqual(wide(calls, 0), 951)
        self.assertEqual(last(*calls, die(900)), 1)


class Holds(unittest.TestCase):

    def test_the_row_goes_and_is_as_wanted(self):
        self.assertEqual(last(begin(off=0), die(900), put(0), HOLDS), 1)
        self.assertEqual(last(begin(want=800, off=0), die(900), die(800), put(0), put(1), HOLDS), 1)

    def test_it_goes_and_is_not_as_wanted(self):
        calls = [begin(want=800, off=0), die(900), die(800), put(0)]
        self.assertEqual(told(calls + [HOLDS, WRONG])[4:], [0, -33])
        self.assertEqual(last(*calls, put(1), HOLDS), 1)

    def test_it_is_as_wanted_and_does_not_go(self):
        calls = [begin(off=0), die(900), put(0)]
        for width, as_told in ((900, 0), (901, 1), (1272, 1), (1273, 0), (10000, 0), (100, 0)):
            with self.subTest(rod=width):
                self.assertEqual(last(*calls, rod(width), HOLDS), as_told)

    def test_how_far_off(self):
        row_of_900 = [begin(), die(900), put(0)]
        for w, off, as_told in (
                (900, 0, 1), (901, 0, 0), (899, 0, 0), (910, 10, 1), (911, 10, 0), (890, 10, 1), (889, 10, 0),
                (1900, 1000, 1), (1901, 1000, 0), (100, 800, 1), (100, 799, 0)):
            with self.subTest(w=w, off=off):
                self.assertEqual(last(*row_of_900, want(w, off), HOLDS), as_told)

    def test_an_empty_row_brings_out_the_rod(self):
        self.assertEqual(last(begin(rod=900, off=0), HOLDS), 1)
        self.assertEqual(last(begin(rod=901, off=0), HOLDS), 0)
        self.assertEqual(last(begin(rod=899, off=0), HOLDS), 0)
        self.assertEqual(last(begin(rod=900, off=0), rod(901), HOLDS), 0)

    def test_it_changes_nothing(self):
        calls = [begin(off=0), die(900), put(0), HOLDS, HOLDS]
        self.assertEqual(told(calls)[-2:], [1, 1])
        self.assertEqual(row(calls), [0])


class Wrong(unittest.TestCase):

    two = [begin(), die(900), die(800), put(0), put(1)]

    def test_the_row_goes(self):
        self.assertEqual(last(*self.two, WRONG), -33)
        self.assertEqual(last(begin(), WRONG), -33)

    def test_the_rod_is_too_narrow_or_too_wide(self):
        for width, as_told in ((900, 0), (901, -33), (1272, -33), (1273, 0), (100, 0), (10000, 0), (850, 0)):
            with self.subTest(rod=width):
                self.assertEqual(last(*self.two, rod(width), WRONG), as_told)

    def test_need_not_be_as_wanted(self):
        self.assertEqual(last(*self.two, want(5000, 0), WRONG), -33)

    def test_the_first_of_all_places(self):
        # No line comes to such rows, as run refuses them: the bench itself is asked.
        bench = Bench()
        bench.begin(1000, 500, 900, 0)
        for widths, place in (
                ([900, 800, 700], None), ([900, 900, 700], 1), ([900, 800, 800], 2), ([900, 901, 902], 1),
                ([900, 800, 500], 2), ([1000, 1000, 1000], 0), ([], None)):
            with self.subTest(widths=widths):
                self.assertEqual(bench.wrong_place(widths), place)

    def test_it_changes_nothing(self):
        calls = self.two + [rod(900), WRONG, WRONG]
        self.assertEqual(told(calls)[-2:], [0, 0])
        self.assertEqual(row(calls), [0, 1])


if __name__ == "__main__":
    unittest.main()
