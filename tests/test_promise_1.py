"""Promise 1: begin, rod, want, die, grind."""

import unittest

from tests.line import CLEAR, TOP, as_wanted, begin, die, grind, last, put, rod, row, run, told, want, wanted, wide

WIDTHS_REFUSED = (0, 1, 99, 10001, TOP)
WIDTHS_TAKEN = (100, 101, 9999, 10000)


class Begin(unittest.TestCase):

    def test_answers_0(self):
        self.assertEqual(last(begin(5000, 200, 3000, 10)), 0)

    def test_rod(self):
        for width in WIDTHS_TAKEN:
            with self.subTest(rod=width):
                self.assertEqual(told([begin(rod=width), rod(500)]), [0, width])
        for width in WIDTHS_REFUSED:
            with self.subTest(rod=width):
                self.assertEqual(last(begin(rod=width)), -22)

    def test_most(self):
        for most in (1, 2, 499, 500):
            with self.subTest(most=most):
                self.assertEqual(last(begin(most=most)), 0)
        for most in (0, 501, 1000, TOP):
            with self.subTest(most=most):
                self.assertEqual(last(begin(most=most)), -22)

    def test_want(self):
        for width in WIDTHS_TAKEN:
            with self.subTest(want=width):
                self.assertEqual(told([begin(want=width), want(500, 0)]), [0, width])
        for width in WIDTHS_REFUSED:
            with self.subTest(want=width):
                self.assertEqual(last(begin(want=width)), -22)

    def test_off(self):
        for off in (0, 1, 999, 1000):
            with self.subTest(off=off):
                calls = [begin(want=5000, off=off)]
                self.assertEqual(last(*calls), 0)
                self.assertEqual(as_wanted(calls, 5000 + off), 1)
                self.assertEqual(as_wanted(calls, 5001 + off), 0)
        for off in (1001, TOP):
            with self.subTest(off=off):
                self.assertEqual(last(begin(off=off)), -22)

    def test_all_out_of_bounds(self):
        self.assertEqual(last(begin(TOP, TOP, TOP, TOP)), -22)


class Rod(unittest.TestCase):

    def test_answers_how_wide_it_was(self):
        self.assertEqual(told([begin(), rod(2000), rod(3000), rod(3000)]), [0, 1000, 2000, 3000])

    def test_edges(self):
        for width in WIDTHS_TAKEN:
            with self.subTest(r=width):
                self.assertEqual(told([begin(), rod(width), rod(500)]), [0, 1000, width])

    def test_refused_it_changes_nothing(self):
        for width in WIDTHS_REFUSED:
            with self.subTest(r=width):
                self.assertEqual(told([begin(), rod(width), rod(500)]), [0, -22, 1000])

    def test_dies_and_row_stay(self):
        calls = [begin(), die(900), die(800), put(0), put(1), rod(600)]
        self.assertEqual(row(calls), [0, 1])
        self.assertEqual(wide(calls, 0), 900)
        self.assertEqual(wanted(calls), 900)


class Want(unittest.TestCase):

    def test_answers_what_was_wanted(self):
        self.assertEqual(told([begin(), want(2000, 1), want(3000, 2), want(3000, 0)]), [0, 900, 2000, 3000])

    def test_edges(self):
        for width in WIDTHS_TAKEN:
            with self.subTest(w=width):
                self.assertEqual(told([begin(), want(width, 0), want(500, 0)]), [0, 900, width])

    def test_off_is_new_too(self):
        for off in (0, 1, 999, 1000):
            with self.subTest(off=off):
                calls = [begin(), want(5000, off)]
                for width, as_told in ((4999 - off, 0), (5000 - off, 1), (5000 + off, 1), (5001 + off, 0)):
                    self.assertEqual(as_wanted(calls, width), as_told)

    def test_refused_it_changes_nothing(self):
        wrong = [want(width, 0) for width in WIDTHS_REFUSED] + [want(950, 1001), want(950, TOP), want(TOP, TOP)]
        for call in wrong:
            with self.subTest(call=call):
                calls = [begin(off=20), call]
                self.assertEqual(last(*calls), -22)
                self.assertEqual(wanted(calls), 900)
                self.assertEqual(as_wanted(calls, 920), 1)
                self.assertEqual(as_wanted(calls, 921), 0)


class MoreDies(unittest.TestCase):

    def test_numbered_from_0(self):
        self.assertEqual(told([begin(), die(900), die(900), die(100)]), [0, 0, 1, 2])

    def test_widths(self):
        for width in WIDTHS_TAKEN:
            with self.subTest(width=width):
                calls = [begin(), die(width)]
                self.assertEqual(last(*calls), 0)
                self.assertEqual(wide(calls, 0), width)
        for width in WIDTHS_REFUSED:
            with self.subTest(width=width):
                self.assertEqual(told([begin(), die(width), die(900)]), [0, -22, 0])

    def test_lives(self):
        for life in (1, 2, 99999, 100000):
            with self.subTest(life=life):
                self.assertEqual(last(begin(), die(900, life)), 0)
        for life in (0, 100001, TOP):
            with self.subTest(life=life):
                self.assertEqual(told([begin(), die(900, life), die(900)]), [0, -22, 0])

    def test_the_longest_life_is_the_die_s_own(self):
        # Through 900 of a rod of 1000 there come 24691 metres of 20000.
        calls = [begin(), die(900), put(0)] + [run(20000)] * 4
        self.assertEqual(wide(calls, 0), 900)
        self.assertEqual(wide(calls + [run(1000)], 0), 900)
        self.assertEqual(wide(calls + [run(1002)], 0), 901)

    def test_the_eighth_and_the_ninth(self):
        calls = [begin()] + [die(900)] * 8
        self.assertEqual(told(calls), [0, 0, 1, 2, 3, 4, 5, 6, 7])
        self.assertEqual(told(calls + [die(900), die(800), put(8), put(7)])[9:], [-28, -28, -2, 1])

    def test_out_of_bounds_is_told_ahead_of_no_room(self):
        calls = [begin()] + [die(900)] * 8
        self.assertEqual(last(*calls, die(99)), -22)
        self.assertEqual(last(*calls, die(900, 0)), -22)


class Grind(unittest.TestCase):

    def test_answers_how_wide_it_was(self):
        self.assertEqual(told([begin(), die(900), grind(0, 950), grind(0, 960)]), [0, 0, 900, 950])

    def test_the_one_that_is_named(self):
        calls = [begin(), die(900), die(800), die(700), grind(1, 850)]
        self.assertEqual(last(*calls), 800)
        self.assertEqual([wide(calls, d) for d in range(3)], [900, 850, 700])

    def test_to_the_width_that_it_has(self):
        self.assertEqual(told([begin(), die(900), grind(0, 900), grind(0, 900)]), [0, 0, 900, 900])

    def test_not_narrower(self):
        self.assertEqual(told([begin(), die(900), grind(0, 899), grind(0, 900)]), [0, 0, -33, 900])

    def test_widths(self):
        for width in WIDTHS_REFUSED:
            with self.subTest(width=width):
                self.assertEqual(told([begin(), die(100), grind(0, width), grind(0, 100)]), [0, 0, -22, 100])
        for width in WIDTHS_TAKEN:
            with self.subTest(width=width):
                self.assertEqual(told([begin(), die(100), grind(0, width), grind(0, 10000)]), [0, 0, 100, width])

    # Of life 100, it has drawn 150 metres: one wider, and half a life on the way to the next.
    worn = [begin(), die(900, 100), put(0), run(122), CLEAR]

    def test_worn_it_answers_how_wide_it_was_then(self):
        self.assertEqual(last(*self.worn, grind(0, 950)), 901)
        self.assertEqual(last(*self.worn, grind(0, 901)), 901)

    def test_worn_it_is_held_by_the_width_it_has_now(self):
        self.assertEqual(last(*self.worn, grind(0, 900)), -33)

    def test_nothing_was_drawn_since(self):
        # 60 metres through 901 of a rod of 1000 are 73: with the 50 from ahead they'd be a life.
        for width in (901, 902):
            with self.subTest(width=width):
                self.assertEqual(wide(self.worn + [grind(0, width), put(0), run(60)], 0), width)
        self.assertEqual(wide(self.worn + [put(0), run(60)], 0), 902)

    def test_refused_the_wear_stays(self):
        for call, refusal in ((grind(0, 900), -33), (grind(0, 99), -22), (grind(1, 950), -2)):
            with self.subTest(call=call):
                self.assertEqual(last(*self.worn, call), refusal)
                self.assertEqual(wide(self.worn + [call, put(0), run(60)], 0), 902)

    def test_not_in_the_row(self):
        calls = [begin(), die(900), put(0), grind(0, 950)]
        self.assertEqual(last(*calls), -16)
        self.assertEqual(wide(calls, 0), 900)
        self.assertEqual(row(calls), [0])

    def test_another_is_in_the_row(self):
        self.assertEqual(last(begin(), die(900), die(800), put(0), grind(1, 850)), 800)

    def test_no_such_die(self):
        for d in (1, 2, 8, TOP):
            with self.subTest(d=d):
                self.assertEqual(last(begin(), die(900), grind(d, 950)), -2)
        self.assertEqual(last(begin(), grind(0, 950)), -2)

    def test_order_of_refusals(self):
        in_row = [begin(), die(900), put(0)]
        self.assertEqual(last(*in_row, grind(1, 99)), -2)
        self.assertEqual(last(*in_row, grind(TOP, TOP)), -2)
        self.assertEqual(last(*in_row, grind(0, 99)), -22)
        self.assertEqual(last(*in_row, grind(0, 10001)), -22)
        self.assertEqual(last(*in_row, grind(0, 899)), -16)
        self.assertEqual(last(*in_row, CLEAR, grind(0, 99)), -22)


if __name__ == "__main__":
    unittest.main()
