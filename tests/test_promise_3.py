"""Promise 3: run, may, out, longest."""

import unittest

from tests.line import (
    CLEAR, HOLDS, LONGEST, SET_ROW, TOP, begin, die, grind, last, may, out, put, rod, row, run, state, told, want, wide)

METRES_REFUSED = (0, 20001, TOP)


class Run(unittest.TestCase):

    def test_how_many_metres_come_out(self):
        calls = [begin(), die(900), put(0)]
        for m, told_out in ((1, 1), (4, 4), (5, 6), (80, 98), (81, 100), (82, 101), (20000, 24691)):
            with self.subTest(m=m):
                self.assertEqual(last(*calls, run(m)), told_out)

    def test_by_the_last_die(self):
        calls = [begin(want=800), die(900), die(800), put(0), put(1)]
        self.assertEqual(last(*calls, run(100)), 156)

    def test_by_the_rod_that_is_there_now(self):
        calls = [begin(), die(900), put(0), rod(1200)]
        self.assertEqual(last(*calls, run(100)), 177)

    def test_an_empty_row(self):
        for m in (1, 7, 20000):
            with self.subTest(m=m):
                self.assertEqual(last(begin(rod=900, off=0), run(m)), m)

    def test_an_empty_row_that_does_not_hold(self):
        self.assertEqual(last(begin(rod=901, off=0), run(1)), -33)

    def test_metres(self):
        calls = [begin(), die(900), put(0)]
        for m in METRES_REFUSED:
            with self.subTest(m=m):
                self.assertEqual(last(*calls, run(m)), -22)
                self.assertEqual(last(begin(), run(m)), -22)

    def test_the_row_does_not_hold(self):
        calls = [begin(off=0), die(900), put(0)]
        self.assertEqual(last(*calls, want(901, 0), run(1)), -33)
        self.assertEqual(last(*calls, rod(900), run(1)), -33)
        self.assertEqual(last(*calls, rod(1273), run(1)), -33)

    def test_it_would_not_behind_it(self):
        calls = [begin(off=0), die(900, 100), put(0)]
        self.assertEqual(last(*calls, run(80)), 98)
        self.assertEqual(last(*calls, run(81)), -61)
        self.assertEqual(last(*calls, run(80), run(1)), 1)
        self.assertEqual(last(*calls, run(80), run(1), run(1)), -61)

    def test_it_would_be_as_wide_as_the_rod(self):
        calls = [begin(), die(999, 100), put(0)]
        self.assertEqual(last(*calls, run(99)), 99)
        self.assertEqual(last(*calls, run(100)), -61)

    def test_the_first_die_would_be_too_wide_for_the_second(self):
        # To 708 wire goes from 1001, and not from 1002.
        calls = [begin(rod=1300, want=708, off=0), die(1000, 169), die(708), put(0), put(1)]
        self.assertEqual(last(*calls, run(99)), 333)
        self.assertEqual(last(*calls, run(100)), 337)
        self.assertEqual(wide(calls + [run(100)], 0), 1001)
        self.assertEqual(last(*calls, run(200)), -61)

    def test_order_of_refusals(self):
        does_not_hold = [begin(off=0), die(900, 1), put(0), want(950, 0)]
        for m in METRES_REFUSED:
            with self.subTest(m=m):
                self.assertEqual(last(*does_not_hold, run(m)), -22)
        # Nor would it behind these: but it doesn't ahead of them.
        self.assertEqual(last(*does_not_hold, run(1)), -33)
        self.assertEqual(last(*does_not_hold, run(20000)), -33)
        # Behind these it would hold.
        self.assertEqual(last(begin(off=0), die(900, 1), put(0), want(901, 0), run(1)), -33)
        self.assertEqual(last(begin(off=0), die(900, 1), put(0), run(20001)), -22)

    def test_refused_it_changes_nothing(self):
        for call, refusal in ((run(82), -61), (run(20001), -22), (run(0), -22)):
            with self.subTest(call=call):
                calls = [begin(off=0), die(900, 100), put(0), run(40), call]
                self.assertEqual(last(*calls), refusal)
                self.assertEqual(wide(calls, 0), 900)
                self.assertEqual(row(calls), [0])
                # 49 metres were drawn through it: 50 more don't make a life, 51 do.
                self.assertEqual(last(*calls, run(41)), 50)
                self.assertEqual(last(*calls, run(42)), -61)

    def test_refused_as_it_does_not_hold_it_changes_nothing(self):
        calls = [begin(off=0), die(900, 100), put(0), want(950, 0), run(5000), want(900, 0)]
        self.assertEqual(last(*calls[:-1]), -33)
        self.assertEqual(last(*calls, run(80)), 98)


class Wear(unittest.TestCase):

    def test_one_wider_with_each_full_life(self):
        calls = [begin(), die(900, 100), put(0)]
        for m, width in ((1, 900), (80, 900), (81, 901), (161, 901), (162, 902), (1000, 912)):
            with self.subTest(m=m):
                self.assertEqual(wide(calls + [run(m)], 0), width)

    def test_a_life_of_1(self):
        self.assertEqual(wide([begin(), die(900, 1), put(0), run(5)], 0), 906)

    def test_by_its_width_ahead_of_the_run(self):
        calls = [begin(), die(900, 100), put(0), run(1000)]
        self.assertEqual(last(*calls), 1234)
        self.assertEqual(wide(calls, 0), 912)
        self.assertEqual(last(*calls, run(1000)), 1202)
        self.assertEqual(wide(calls + [run(1000)], 0), 924)

    def test_rounded_at_each_run(self):
        calls = [begin(), die(900, 6), put(0)]
        self.assertEqual(wide(calls + [run(5)], 0), 901)
        self.assertEqual(wide(calls + [run(1)] * 5, 0), 900)
        self.assertEqual(wide(calls + [run(1)] * 6, 0), 901)

    def test_each_die_by_the_rod_and_its_own_width(self):
        # 8 metres come through the first, 9 through the second; by way of the first's 8 they'd be 8.
        calls = [begin(), die(900, 8), die(850, 9), die(700, 1), put(0), put(1)]
        self.assertEqual(last(*calls, run(7)), 9)
        self.assertEqual([wide(calls + [run(7)], d) for d in range(3)], [901, 851, 700])
        self.assertEqual([wide(calls + [run(6)], d) for d in range(3)], [900, 850, 700])

    def test_only_dies_of_the_row(self):
        calls = [begin(), die(900, 1), die(950, 1), put(1), run(10)]
        self.assertEqual([wide(calls, d) for d in range(2)], [900, 961])

    def test_what_was_drawn_stays_with_the_die(self):
        calls = [begin(), die(900, 100), put(0), run(80), CLEAR, rod(950), put(0), run(2)]
        self.assertEqual(wide(calls[:-1], 0), 900)
        self.assertEqual(wide(calls, 0), 901)

    def test_ground_a_second_time(self):
        calls = [begin(), die(900, 10), put(0), run(50), CLEAR, grind(0, 950), put(0), run(50)]
        self.assertEqual(told(calls)[-3:], [906, 1, 55])
        self.assertEqual(wide(calls, 0), 955)

    def test_the_most_that_can_be_drawn(self):
        # Of the widest rod, through the narrowest die that it goes to; by the third run it gets wider.
        calls = [begin(rod=10000, want=8000), die(7072), put(0)] + [run(20000)] * 4
        self.assertEqual(told(calls)[-4:], [39989, 39989, 39989, 39978])
        self.assertEqual(wide(calls[:-2], 0), 7072)
        self.assertEqual(wide(calls[:-1], 0), 7073)
        self.assertEqual(last(*calls, HOLDS), 1)


# With 100 metres the first die grows too wide for the second; with 200 the second grows too.
REFUSED_WITH_FEWER = [begin(1354, 100, 1220, 50), die(1285, 100), die(1220, 200), put(0), put(1)]


class May(unittest.TestCase):

    def test_edges(self):
        calls = [begin(), die(900), put(0)]
        for m, as_told in ((0, -22), (1, 1), (2, 1), (19999, 1), (20000, 1), (20001, -22), (TOP, -22)):
            with self.subTest(m=m):
                self.assertEqual(last(*calls, may(m)), as_told)
                self.assertEqual(last(begin(), may(m)), as_told)

    def test_the_row_does_not_hold(self):
        calls = [begin(off=0), die(900), put(0)]
        for changed in (want(901, 0), rod(900), rod(1273)):
            with self.subTest(changed=changed):
                self.assertEqual(last(*calls, changed, may(1)), 0)
                self.assertEqual(last(*calls, changed, may(20000)), 0)

    def test_out_of_bounds_is_told_first(self):
        for calls in ([begin(off=0)], [begin(off=0), die(900, 1), put(0)]):
            for m in METRES_REFUSED:
                with self.subTest(calls=calls, m=m):
                    self.assertEqual(last(*calls, may(m)), -22)

    def test_it_would_not_behind_it(self):
        calls = [begin(off=0), die(900, 100), put(0)]
        self.assertEqual(told(calls + [may(80), may(81), may(20000)])[3:], [1, 0, 0])
        self.assertEqual(told(calls + [run(80), may(1), run(1), may(1)])[3:], [98, 1, 1, 0])

    def test_it_would_hold_behind_it_and_does_not_now(self):
        self.assertEqual(last(begin(off=0), die(900, 1), put(0), want(901, 0), may(1)), 0)

    def test_an_empty_row(self):
        self.assertEqual(last(begin(rod=900, off=0), may(20000)), 1)
        self.assertEqual(last(begin(rod=901, off=0), may(1)), 0)

    def test_with_more_where_not_with_fewer(self):
        calls = REFUSED_WITH_FEWER + [may(m) for m in (100, 200, 300, 400)]
        self.assertEqual(told(calls)[5:], [0, 1, 0, 0])

    def test_it_changes_nothing(self):
        calls = [begin(off=10), die(950, 7), die(900, 7), put(0), put(1), run(5)]
        for m in (0, 1, 20, 20000, 20001):
            with self.subTest(m=m):
                self.assertEqual(state(calls + [may(m)]), state(calls))


class Out(unittest.TestCase):

    def test_edges(self):
        calls = [begin(), die(900), put(0)]
        for m, as_told in ((0, 0), (1, 1), (4, 4), (5, 6), (81, 100), (20000, 24691), (20001, -22), (TOP, -22)):
            with self.subTest(m=m):
                self.assertEqual(last(*calls, out(m)), as_told)

    def test_an_empty_row(self):
        for m in (0, 1, 7, 20000):
            with self.subTest(m=m):
                self.assertEqual(last(begin(), out(m)), m)
                self.assertEqual(last(begin(rod=901, off=0), out(m)), m)
        self.assertEqual(last(begin(), out(20001)), -22)

    def test_by_the_last_die(self):
        calls = [begin(), die(900), die(800), put(0), put(1)]
        self.assertEqual(last(*calls, out(100)), 156)

    def test_by_the_width_that_it_has_now(self):
        calls = [begin(), die(900, 100), put(0), run(1000)]
        self.assertEqual(told(calls + [out(1000), run(1000)])[-2:], [1202, 1202])

    def test_by_its_width_ahead_of_the_run(self):
        self.assertEqual(last(begin(), die(900, 1), put(0), out(1000)), 1234)

    def test_the_row_need_not_hold(self):
        calls = [begin(want=5000, off=0), die(900), put(0)]
        self.assertEqual(last(*calls, out(81)), 100)
        # Nor need it go: as wide as the rod, and wider.
        self.assertEqual(last(*calls, rod(900), out(81)), 81)
        self.assertEqual(last(*calls, rod(500), out(100)), 30)
        self.assertEqual(last(*calls, rod(500), out(20001)), -22)
        self.assertEqual(last(*calls, rod(10000), out(20000)), 2469135)

    def test_where_run_would_be_refused_behind_it(self):
        self.assertEqual(last(begin(off=0), die(900, 100), put(0), out(20000)), 24691)

    def test_it_changes_nothing(self):
        calls = [begin(), die(950, 7), die(900, 7), put(0), put(1), run(5)]
        for m in (0, 1, 20000, 20001):
            with self.subTest(m=m):
                self.assertEqual(state(calls + [out(m)]), state(calls))


class Longest(unittest.TestCase):

    def accords_with_run(self, calls, longest):
        """That run isn't refused with as many metres as are told, and is with each hundred above."""
        if longest > 0:
            self.assertGreaterEqual(last(*calls, run(longest)), 0)
        for m in range(longest + 100, 20001, 100):
            self.assertEqual(last(*calls, run(m)), -61)

    def test_the_row_does_not_hold(self):
        calls = [begin(off=0), die(900), put(0)]
        for changed in (want(901, 0), rod(900), rod(850), rod(1273)):
            with self.subTest(changed=changed):
                self.assertEqual(last(*calls, changed, LONGEST), -33)
        self.assertEqual(last(begin(rod=901, off=0), LONGEST), -33)

    def test_it_would_hold_behind_some_runs_and_does_not_now(self):
        self.assertEqual(last(begin(off=0), die(900, 200), put(0), want(901, 0), LONGEST), -33)

    def test_as_far_as_it_is_asked(self):
        self.assertEqual(last(begin(), die(900), put(0), LONGEST), 20000)
        self.assertEqual(last(begin(rod=900, off=0), LONGEST), 20000)

    def test_none(self):
        # With fewer than a hundred it may be run.
        calls = [begin(off=0), die(900, 123), put(0)]
        self.assertEqual(last(*calls, run(99)), 122)
        self.assertEqual(last(*calls, LONGEST), 0)
        self.accords_with_run(calls, 0)

    def test_a_hundred_more_would_be_refused(self):
        for life, longest in (
                (123, 0), (124, 100), (246, 100), (247, 200), (1000, 800), (9876, 7900), (9877, 8000),
                (24691, 19900), (24692, 20000)):
            with self.subTest(life=life):
                calls = [begin(off=0), die(900, life), put(0)]
                self.assertEqual(last(*calls, LONGEST), longest)
                self.accords_with_run(calls, longest)

    def test_by_what_was_drawn_already(self):
        calls = [begin(off=0), die(900, 1000), put(0), LONGEST, run(500), LONGEST, run(300), LONGEST]
        self.assertEqual(told(calls)[3:], [800, 617, 300, 370, 0])

    def test_in_whole_hundreds(self):
        calls = [begin(off=0), die(900, 1000), put(0)]
        self.assertEqual(last(*calls, run(809)), 998)
        self.assertEqual(last(*calls, run(810)), -61)

    def test_run_would_be_refused_with_fewer(self):
        self.assertEqual(last(*REFUSED_WITH_FEWER, LONGEST), 200)
        self.assertEqual(last(*REFUSED_WITH_FEWER, run(100)), -61)
        self.accords_with_run(REFUSED_WITH_FEWER, 200)

    def test_run_would_be_refused_with_fewer_and_not_with_the_most(self):
        # The second die grows as wide as the first is, some thousands of metres ahead of the first.
        calls = [begin(), die(901, 20000), die(900, 16000), put(0), put(1)]
        self.assertEqual(told(calls + [may(12959), may(12960), may(16236), may(16237)])[5:], [1, 0, 0, 1])
        self.assertEqual(last(*calls, LONGEST), 20000)

    def test_behind_set(self):
        self.assertEqual(last(begin(off=0), die(900, 1000), SET_ROW, LONGEST), 800)

    def test_it_changes_nothing(self):
        for calls in (
                [begin(off=10), die(950, 7), die(900, 7), put(0), put(1), run(5)],
                [begin(off=0), die(950, 7), put(0)], REFUSED_WITH_FEWER):
            with self.subTest(calls=calls):
                self.assertEqual(state(calls + [LONGEST, LONGEST]), state(calls))


if __name__ == "__main__":
    unittest.main()
