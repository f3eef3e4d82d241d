"""Promise 5: takes, least, left, size, row, sums."""

import unittest

from tests.line import (
    CLEAR, LONGEST, ROW, SET_ROW, SUMS, TAKE, TOP, begin, die, grind, last, least, left, may, numbers, out, put, rod,
    run, size, state, takes, told, want)

NO_SUCH_DIES = (2, 7, 8, TOP)


class Takes(unittest.TestCase):

    two = [begin(), die(900), die(800), put(0), put(1)]

    def test_the_first_place_from_the_rod(self):
        self.assertEqual(numbers(*self.two, takes(0)), [0, 19, 100])

    def test_the_last_place_from_the_die_before(self):
        self.assertEqual(numbers(*self.two, takes(1)), [0, 17, 81])

    def test_by_places_not_by_numbers(self):
        calls = [begin(), die(800), die(900), put(1), put(0)]
        self.assertEqual(numbers(*calls, takes(0)), [0, 19, 100])
        self.assertEqual(numbers(*calls, takes(1)), [0, 17, 81])

    def test_no_such_place(self):
        for k in (2, 7, 8, TOP):
            with self.subTest(k=k):
                self.assertEqual(numbers(*self.two, takes(k)), [-2])
        self.assertEqual(numbers(begin(), takes(0)), [-2])
        # There is such a die, and no such place.
        self.assertEqual(numbers(begin(), die(900), takes(0)), [-2])
        self.assertEqual(numbers(*self.two, TAKE, takes(1)), [-2])

    def test_all_eight_places(self):
        calls = [begin()] + [die(990 - 10 * d) for d in range(8)] + [put(d) for d in range(8)]
        self.assertEqual(numbers(*calls, takes(0)), [0, 199, 10000])
        self.assertEqual(numbers(*calls, takes(7)), [0, 185, 8649])
        self.assertEqual(numbers(*calls, takes(8)), [-2])

    def test_wire_is_not_wider_there(self):
        self.assertEqual(numbers(*self.two, rod(900), takes(0)), [-33])
        self.assertEqual(numbers(*self.two, rod(899), takes(0)), [-33])
        self.assertEqual(numbers(*self.two, rod(100), takes(0)), [-33])
        # Not there: but at the next place it is.
        self.assertEqual(numbers(*self.two, rod(100), takes(1)), [0, 17, 81])
        self.assertEqual(numbers(*self.two, rod(100), takes(2)), [-2])

    def test_wire_need_only_be_wider(self):
        self.assertEqual(numbers(*self.two, rod(901), takes(0)), [0, 1801, 811801])
        self.assertEqual(numbers(*self.two, rod(5000), takes(0)), [0, 2419, 2500])
        self.assertEqual(numbers(*self.two, rod(10000), takes(0)), [0, 9919, 10000])

    def test_nothing_in_common(self):
        for wider, width, fraction in (
                (1000, 750, [7, 16]), (1000, 800, [9, 25]), (10000, 9999, [19999, 100000000]),
                (239, 169, [28560, 57121]), (102, 101, [203, 10404]), (9000, 8000, [17, 81]), (990, 980, [197, 9801])):
            with self.subTest(wider=wider, width=width):
                self.assertEqual(numbers(begin(rod=wider), die(width), put(0), takes(0)), [0] + fraction)

    def test_by_the_widths_that_dies_have_now(self):
        calls = [begin(), die(949, 100), die(799, 156), put(0), put(1), run(100)]
        self.assertEqual(numbers(*calls, takes(0)), [0, 39, 400])
        self.assertEqual(numbers(*calls, takes(1)), [0, 105, 361])

    def test_a_die_grown_as_wide_as_the_rod(self):
        calls = [begin(), die(900, 100), put(0), run(81)]
        self.assertEqual(numbers(*calls, rod(901), takes(0)), [-33])
        self.assertEqual(numbers(*calls, rod(902), takes(0)), [0, 1803, 813604])

    def test_it_changes_nothing(self):
        for k in (0, 1, 2):
            with self.subTest(k=k):
                self.assertEqual(state(self.two + [takes(k)]), state(self.two))
                self.assertEqual(state(self.two + [rod(900), takes(k)]), state(self.two + [rod(900)]))


class Least(unittest.TestCase):

    def test_edges(self):
        for most, a, as_told in (
                (1, 99, -22), (1, 100, 100), (1, 10000, 9995), (1, 10001, -22), (500, 99, -22), (500, 100, 71),
                (500, 10000, 7072), (500, 10001, -22), (500, 0, -22), (500, TOP, -22)):
            with self.subTest(most=most, a=a):
                self.assertEqual(last(begin(most=most), least(a)), as_told)

    def test_just_as_much_as_most(self):
        self.assertEqual(last(begin(most=190), least(1000)), 900)
        self.assertEqual(last(begin(most=189), least(1000)), 901)
        self.assertEqual(last(begin(most=360), least(10000)), 8000)
        self.assertEqual(last(begin(most=361), least(10000)), 7994)

    def test_one_more_or_one_less_than_half(self):
        for a, as_told in ((239, 169), (577, 409), (1393, 985), (3363, 2379), (8119, 5741)):
            with self.subTest(a=a):
                self.assertEqual(last(begin(most=500), least(a)), as_told)

    def test_the_least_is_the_least(self):
        for most in (1, 2, 7, 50, 190, 333, 499, 500):
            widths = [100, 101, 239, 577, 1000, 1999, 5000, 8119, 9999, 10000]
            found = told([begin(most=most)] + [least(a) for a in widths])[1:]
            for a, c in zip(widths, found):
                with self.subTest(most=most, a=a):
                    self.assertLessEqual(0, c)
                    self.assertLessEqual(c, a)
                    self.assertLessEqual(a * a * (1000 - most), 1000 * c * c)
                    self.assertGreater(a * a * (1000 - most), 1000 * (c - 1) * (c - 1))

    def test_in_accord_with_put(self):
        for most in (1, 50, 190, 500):
            for a in (200, 1000, 2001, 10000):
                with self.subTest(most=most, a=a):
                    c = last(begin(), begin(most=most), least(a))
                    goes = [begin(rod=a, most=most), die(c), put(0)]
                    self.assertEqual(last(*goes), 1 if c < a else -33)
                    self.assertEqual(last(begin(rod=a, most=most), die(c - 1), put(0)), -33)

    def test_by_most_alone(self):
        calls = [begin(most=190), die(900), put(0), rod(5000), want(100, 3)]
        self.assertEqual(last(*calls, least(1000)), 900)

    def test_most_of_the_last_begin(self):
        self.assertEqual(last(begin(most=190), begin(most=360), least(10000)), 8000)
        self.assertEqual(last(begin(most=190), begin(most=501), least(10000)), 9000)

    def test_it_changes_nothing(self):
        calls = [begin(), die(900), put(0), run(5)]
        for a in (99, 1000, 10001):
            with self.subTest(a=a):
                self.assertEqual(state(calls + [least(a)]), state(calls))


class Size(unittest.TestCase):

    two = [begin(), die(900, 100), die(800, 7), put(0)]

    def test_a_new_die(self):
        self.assertEqual(numbers(*self.two, size(0)), [900, 900, 100, 0])
        self.assertEqual(numbers(*self.two, size(1)), [800, 800, 7, 0])

    def test_a_worn_die(self):
        for m, as_told in (
                (80, [900, 900, 100, 98]), (81, [901, 900, 100, 100]), (161, [901, 900, 100, 198]),
                (162, [902, 900, 100, 200]), (1000, [912, 900, 100, 1234])):
            with self.subTest(m=m):
                self.assertEqual(numbers(*self.two, run(m), size(0)), as_told)

    def test_the_most_by_one_run(self):
        calls = [begin(), die(900, 1000), put(0), run(20000)]
        self.assertEqual(numbers(*calls, size(0)), [924, 900, 1000, 24691])

    def test_only_dies_of_the_row_wear(self):
        self.assertEqual(numbers(*self.two, run(81), size(1)), [800, 800, 7, 0])

    def test_more_by_each_run(self):
        calls = self.two + [run(80), run(1), run(81)]
        self.assertEqual(told(calls)[-3:], [98, 1, 100])
        self.assertEqual(numbers(*calls[:-1], size(0)), [900, 900, 100, 99])
        self.assertEqual(numbers(*calls, size(0)), [901, 900, 100, 199])

    def test_ground(self):
        calls = self.two + [run(81), CLEAR, grind(0, 950)]
        self.assertEqual(numbers(*calls, size(0)), [950, 950, 100, 0])
        self.assertEqual(numbers(*calls, put(0), run(91), size(0)), [951, 950, 100, 100])

    def test_ground_to_as_wide_as_it_is(self):
        self.assertEqual(numbers(*self.two, run(82), CLEAR, grind(0, 901), size(0)), [901, 901, 100, 0])
        refused = self.two + [run(82), CLEAR, grind(0, 900), size(0)]
        self.assertEqual(numbers(*refused), [901, 900, 100, 101])

    def test_a_refused_run_wears_none(self):
        calls = [begin(rod=10000, want=9999), die(9999, 1), put(0), run(1)]
        self.assertEqual(last(*calls), -61)
        self.assertEqual(numbers(*calls, size(0)), [9999, 9999, 1, 0])

    def test_no_such_die(self):
        for d in NO_SUCH_DIES:
            with self.subTest(d=d):
                self.assertEqual(numbers(*self.two, size(d)), [-2])
        self.assertEqual(numbers(begin(), size(0)), [-2])
        self.assertEqual(numbers(*self.two, begin(), size(0)), [-2])

    def test_it_changes_nothing(self):
        calls = self.two + [run(5)]
        for d in (0, 1, 2):
            with self.subTest(d=d):
                self.assertEqual(state(calls + [size(d)]), state(calls))


class Left(unittest.TestCase):

    two = [begin(), die(900, 100), die(800, 7), put(0)]

    def test_a_new_die(self):
        self.assertEqual(told(self.two + [left(0), left(1)])[4:], [100, 7])
        self.assertEqual(told([begin(), die(900, 1), die(900, 100000), left(0), left(1)])[3:], [1, 100000])

    def test_a_worn_die(self):
        for m, as_told in ((1, 99), (80, 2), (81, 100), (82, 99), (161, 2), (162, 100), (1000, 66)):
            with self.subTest(m=m):
                self.assertEqual(last(*self.two, run(m), left(0)), as_told)
                self.assertEqual(last(*self.two, run(m), left(1)), 7)

    def test_a_life_of_1(self):
        calls = [begin(), die(900, 1), put(0), run(7)]
        self.assertEqual(last(*calls, left(0)), 1)

    def test_so_many_more_make_it_wider(self):
        # The rod is so little wider that of so few metres there come just as many through.
        calls = [begin(rod=902), die(900, 100), put(0), run(60)]
        self.assertEqual(told(calls + [left(0), out(39), out(40)])[-3:], [40, 39, 40])
        self.assertEqual(numbers(*calls, run(39), size(0))[0], 900)
        self.assertEqual(numbers(*calls, run(40), size(0))[0], 901)

    def test_ground(self):
        self.assertEqual(last(*self.two, run(60), CLEAR, grind(0, 900), left(0)), 100)
        self.assertEqual(last(*self.two, run(60), CLEAR, grind(0, 899), left(0)), 26)

    def test_no_such_die(self):
        for d in NO_SUCH_DIES:
            with self.subTest(d=d):
                self.assertEqual(numbers(*self.two, left(d)), [-2])
        self.assertEqual(numbers(begin(), left(0)), [-2])

    def test_it_changes_nothing(self):
        calls = self.two + [run(5)]
        for d in (0, 1, 2):
            with self.subTest(d=d):
                self.assertEqual(state(calls + [left(d)]), state(calls))


class Row(unittest.TestCase):

    three = [begin(), die(700), die(900), die(800)]

    def test_empty(self):
        self.assertEqual(numbers(begin(), ROW), [0])
        self.assertEqual(numbers(*self.three, ROW), [0])

    def test_how_many_dies_then_they_in_order(self):
        self.assertEqual(numbers(*self.three, put(1), ROW), [1, 1])
        self.assertEqual(numbers(*self.three, put(1), put(2), put(0), ROW), [3, 1, 2, 0])

    def test_behind_each_call_that_changes_it(self):
        full = self.three + [put(1), put(2), put(0)]
        self.assertEqual(numbers(*full, TAKE, ROW), [2, 1, 2])
        self.assertEqual(numbers(*full, CLEAR, ROW), [0])
        self.assertEqual(numbers(*full, begin(), ROW), [0])
        self.assertEqual(numbers(*full, want(700, 0), SET_ROW, ROW), [2, 1, 0])

    def test_all_eight(self):
        calls = [begin()] + [die(920 + 10 * d) for d in range(8)] + [put(d) for d in range(7, -1, -1)]
        self.assertEqual(numbers(*calls, ROW), [8, 7, 6, 5, 4, 3, 2, 1, 0])

    def test_a_row_that_does_not_go(self):
        self.assertEqual(numbers(*self.three, put(1), rod(500), ROW), [1, 1])

    def test_it_changes_nothing(self):
        calls = self.three + [put(1), put(2)]
        self.assertEqual(numbers(*calls, ROW, ROW), [2, 1, 2])
        self.assertEqual(state(calls + [ROW]), state(calls))


class Sums(unittest.TestCase):

    def test_behind_begin(self):
        self.assertEqual(numbers(begin(5000, 200, 3000, 10), SUMS), [5000, 200, 3000, 10, 0, 0, 5000])

    def test_in_order(self):
        calls = [begin(5000, 200, 4500, 10), die(4800), die(4500), die(4400), put(0), put(1), run(100), run(23)]
        self.assertEqual(numbers(*calls, SUMS), [5000, 200, 4500, 10, 3, 123, 4500])

    def test_the_rod_and_what_is_wanted_now(self):
        calls = [begin(), rod(2000), want(1800, 7)]
        self.assertEqual(numbers(*calls, SUMS), [2000, 500, 1800, 7, 0, 0, 2000])

    def test_how_many_dies_there_are(self):
        for count in range(9):
            with self.subTest(count=count):
                self.assertEqual(numbers(begin(), *[die(900)] * count, SUMS)[4], count)
        self.assertEqual(numbers(begin(), *[die(900)] * 9, SUMS)[4], 8)

    def test_how_wide_what_comes_out_is(self):
        calls = [begin(), die(900, 100), die(800), put(0)]
        self.assertEqual(numbers(*calls, SUMS)[6], 900)
        self.assertEqual(numbers(*calls, put(1), SUMS)[6], 800)
        self.assertEqual(numbers(*calls, put(1), TAKE, SUMS)[6], 900)
        self.assertEqual(numbers(*calls, TAKE, SUMS)[6], 1000)
        self.assertEqual(numbers(*calls, run(81), SUMS)[6], 901)
        self.assertEqual(numbers(*calls, rod(500), SUMS)[6], 900)

    def test_metres_of_rod_not_of_what_comes_out(self):
        calls = [begin(), die(900), put(0), run(81)]
        self.assertEqual(last(*calls), 100)
        self.assertEqual(numbers(*calls, SUMS)[5], 81)

    def test_metres_of_all_runs(self):
        calls = [begin(), die(900), put(0), run(1), rod(1100), run(20), CLEAR, run(300), rod(900), run(20000)]
        self.assertEqual([numbers(*calls[:k], SUMS)[5] for k in (3, 4, 6, 8, 10)], [0, 1, 21, 321, 20321])

    def test_an_empty_row_draws_too(self):
        self.assertEqual(numbers(begin(), run(7), SUMS)[5], 7)

    def test_a_refused_run_draws_none(self):
        calls = [begin(off=0), die(900, 100), put(0), run(50)]
        for refused, refusal in (
                ([run(0)], -22), ([run(20001)], -22), ([run(TOP)], -22), ([run(32)], -61), ([run(20000)], -61),
                ([want(901, 0), run(5)], -33), ([rod(900), run(5)], -33)):
            with self.subTest(refused=refused):
                self.assertEqual(last(*calls, *refused), refusal)
                self.assertEqual(numbers(*calls, *refused, SUMS)[5], 50)
                self.assertEqual(numbers(*calls, *refused, begin(), SUMS)[5], 0)

    def test_what_asks_draws_none(self):
        calls = [begin(), die(900), put(0), run(50), may(7), out(7), LONGEST]
        self.assertEqual(numbers(*calls, SUMS)[5], 50)

    def test_no_call_but_begin_takes_metres_away(self):
        calls = [begin(), die(900), put(0), run(50), CLEAR, grind(0, 950), rod(1200), want(950, 0), SET_ROW, TAKE]
        self.assertEqual(numbers(*calls, SUMS)[5], 50)

    def test_a_second_begin_starts_anew(self):
        calls = [begin(), die(900), put(0), run(50)]
        self.assertEqual(numbers(*calls, begin(2000, 1, 1500, 3), SUMS), [2000, 1, 1500, 3, 0, 0, 2000])
        self.assertEqual(numbers(*calls, begin(), run(3), SUMS)[5], 3)
        self.assertEqual(numbers(*calls, begin(rod=99), SUMS), [1000, 500, 900, 1000, 1, 50, 900])

    def test_the_most_that_can_be_drawn(self):
        self.assertEqual(numbers(begin(), *[run(20000)] * 78, SUMS)[5], 1560000)

    def test_it_changes_nothing(self):
        calls = [begin(), die(900), put(0), run(50)]
        self.assertEqual(numbers(*calls, SUMS, SUMS), [1000, 500, 900, 1000, 1, 50, 900])
        self.assertEqual(state(calls + [SUMS]), state(calls))


if __name__ == "__main__":
    unittest.main()
