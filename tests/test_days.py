"""Promise 2, its part on days: how many the most are, and which of several choices of as many is taken."""

import itertools
import unittest

from balelayer.bales import days, pick
from tests.helper import LARGEST, CallTests, WrongBalesTests, most_days, some_bales

NINE = [10, 100, 20, 200, 30, 300, 40, 400, 50, 500, 60, 50, 70, 150, 80, 250, 90, 350]


def about_250(*over):
    """Bales of like kilograms that are so much longer than 250, or shorter."""
    return [number for more in over for number in (10, 250 + more)]


class Ordinary(unittest.TestCase):
    def test_one_day_of_two(self):
        # 1 and 3: 250
        self.assertEqual(days(2, 250, 5, about_250(-150, -10, 200, 10)), [1, 0, 1, 0, 1])

    def test_two_days_of_two(self):
        # 0 and 3, 1 and 2: 250; all others are farther than 5 from it.
        self.assertEqual(days(2, 250, 5, about_250(-50, -30, 30, 50)), [2, 1, 2, 2, 1])

    def test_two_days_of_three(self):
        self.assertEqual(days(3, 250, 0, about_250(-30, 100, 10, 140, 20, -240)), [2, 1, 2, 1, 2, 1, 2])

    def test_one_day_of_four(self):
        # 0, 2, 3 and 5
        self.assertEqual(days(4, 250, 0, about_250(-150, 250, -50, 50, 249, 150)), [1, 1, 0, 1, 1, 0, 1])

    def test_the_average_counts_kilograms(self):
        # 25500 / 100 = 255; were each to count as one, they would be at 275.
        self.assertEqual(days(2, 255, 0, [90, 250, 10, 300]), [1, 1, 1])
        self.assertEqual(days(2, 275, 0, [90, 250, 10, 300]), [0, 0, 0])

    def test_no_day_though_there_are_bales(self):
        self.assertEqual(days(2, 400, 10, about_250(-150, -50, 50)), [0, 0, 0, 0])

    def test_what_is_over_has_none(self):
        self.assertEqual(days(2, 250, 0, about_250(0, 0, 0, 0, 0)), [2, 1, 1, 2, 2, 0])
        self.assertEqual(days(3, 250, 0, about_250(0, 0, 0, 0, 0)), [1, 1, 1, 1, 0, 0])
        self.assertEqual(days(4, 250, 0, about_250(0, 0, 0, 0, 0, 0, 0)), [1, 1, 1, 1, 1, 0, 0, 0])

    def test_bales_that_are_not_alike_may_be_together(self):
        # No bale is within 10 by itself.
        self.assertEqual(days(1, 250, 10, about_250(-40, 40)), [0, 0, 0])
        self.assertEqual(days(2, 250, 10, about_250(-40, 40)), [1, 1, 1])


class Edges(unittest.TestCase):
    def test_no_bales(self):
        for k, t, tol in itertools.product((1, 2, 3, 4), (0, 250, 500), (0, 500)):
            self.assertEqual(days(k, t, tol, []), [0])

    def test_fewer_bales_than_k(self):
        for k in (2, 3, 4):
            for count in range(k):
                self.assertEqual(days(k, 250, 500, [10, 250] * count), [0] * (1 + count))

    def test_as_many_bales_as_k(self):
        for k in (1, 2, 3, 4):
            self.assertEqual(days(k, 250, 0, [10, 250] * k), [1] * (1 + k))
            self.assertEqual(days(k, 250, 0, [10, 251] * k), [0] * (1 + k))

    def test_k_of_1(self):
        self.assertEqual(days(1, 250, 10, about_250(-11, -10, 0, 10, 11)), [3, 0, 1, 2, 3, 0])
        self.assertEqual(days(1, 250, 0, [10, 250] * 9), [9, 1, 2, 3, 4, 5, 6, 7, 8, 9])
        self.assertEqual(days(1, 250, 10, [300, 261]), [0, 0])
        self.assertEqual(days(1, 250, 11, [300, 261]), [1, 1])

    def test_all_alike(self):
        self.assertEqual(days(1, 290, 0, [70, 290] * 4), [4, 1, 2, 3, 4])
        self.assertEqual(days(2, 290, 0, [70, 290] * 9), [4, 1, 1, 2, 2, 3, 3, 4, 4, 0])
        self.assertEqual(days(3, 290, 0, [70, 290] * 9), [3, 1, 1, 1, 2, 2, 2, 3, 3, 3])
        self.assertEqual(days(4, 290, 0, [70, 290] * 9), [2, 1, 1, 1, 1, 2, 2, 2, 2, 0])

    def test_all_like_and_too_far(self):
        for k in (1, 2, 3, 4):
            self.assertEqual(days(k, 280, 9, [70, 290] * 9), [0] * 10)

    def test_a_heavy_bale_and_light_ones(self):
        # 1, the heavy one, is at 201 or less with any light one; the light ones are at 400 to 500.
        bales = [1, 400, 300, 200, 1, 500, 1, 500, 1, 400]
        self.assertEqual(days(2, 200, 1, bales), [1, 1, 1, 0, 0, 0])
        self.assertEqual(days(2, 200, 0, bales), [0, 0, 0, 0, 0, 0])
        self.assertEqual(days(2, 450, 0, bales), [2, 1, 0, 1, 2, 2])
        self.assertEqual(days(4, 200, 3, bales), [1, 1, 1, 1, 1, 0])
        # 0, 1 and 2: 60900 / 302 = 201.6..; without the heavy one 0, 2 and 3: 466.6..
        self.assertEqual(days(3, 201, 1, bales), [1, 1, 1, 1, 0, 0])
        self.assertEqual(days(3, 466, 1, bales), [1, 1, 0, 1, 1, 0])

    def test_the_nearest_that_leave_none_for_another_day(self):
        # 0 and 1 are at t, yet 2 and 3 are 15 from it.
        bales = about_250(0, 0, -15, -15)
        self.assertEqual(pick(2, 250, bales), [0, 0, 1])
        self.assertEqual(days(2, 250, 10, bales), [2, 1, 2, 1, 2])
        # 1 and 2 are at t, yet 0 and 3 are 15 from it.
        bales = about_250(-15, 0, 0, -15)
        self.assertEqual(pick(2, 250, bales), [0, 1, 2])
        self.assertEqual(days(2, 250, 10, bales), [2, 1, 1, 2, 2])

    def test_nine_bales_by_three(self):
        # 1 2 -3, 10 30 -40 and 100 140 -240: no other three come to 0.
        self.assertEqual(
            days(3, 250, 0, about_250(1, 10, 100, 30, 2, 140, -40, -240, -3)), [3, 1, 2, 3, 2, 1, 3, 2, 3, 1]
        )
        # 30000 / 120 = 250; 39500 / 140 = 282.1..; 50500 / 180 = 280.5..
        self.assertEqual(days(3, 266, 20, NINE), [3, 1, 2, 1, 3, 2, 3, 2, 1, 3])
        self.assertEqual(days(3, 266, 500, NINE), [3, 1, 1, 1, 2, 2, 2, 3, 3, 3])

    def test_nine_bales_by_four(self):
        self.assertEqual(days(4, 266, 500, NINE), [2, 1, 1, 1, 1, 2, 2, 2, 2, 0])
        # 1 2 3 -6 and 10 20 30 -60
        self.assertEqual(
            days(4, 250, 0, about_250(249, 10, 1, 20, 2, 30, 3, -60, -6)), [2, 0, 1, 2, 1, 2, 1, 2, 1, 2]
        )

    def test_tol_of_0(self):
        self.assertEqual(days(1, 250, 0, about_250(-1, 0, 1)), [1, 0, 1, 0])
        self.assertEqual(days(2, 250, 0, about_250(-1, 0, 1)), [1, 1, 0, 1])
        # 100 and 1 / 300, or less by as much: rounded down or up it would be 100.
        self.assertEqual(days(2, 100, 0, [299, 100, 1, 101]), [0, 0, 0])
        self.assertEqual(days(2, 100, 0, [299, 100, 1, 99]), [0, 0, 0])
        self.assertEqual(days(2, 100, 1, [299, 100, 1, 101]), [1, 1, 1])
        self.assertEqual(days(2, 100, 1, [299, 100, 1, 99]), [1, 1, 1])

    def test_how_far_is_not_rounded(self):
        # 10.5 from 250
        for bales in (about_250(10, 11), about_250(-10, -11)):
            self.assertEqual(days(2, 250, 10, bales), [0, 0, 0])
            self.assertEqual(days(2, 250, 11, bales), [1, 1, 1])
        # 10 from 250
        for bales in (about_250(9, 11), about_250(-9, -11)):
            self.assertEqual(days(2, 250, 9, bales), [0, 0, 0])
            self.assertEqual(days(2, 250, 10, bales), [1, 1, 1])

    def test_t_of_0_and_of_500(self):
        self.assertEqual(days(1, 0, 0, [10, 0, 10, 1, 10, 500]), [1, 1, 0, 0])
        self.assertEqual(days(1, 500, 0, [10, 0, 10, 499, 10, 500]), [1, 0, 0, 1])
        self.assertEqual(days(1, 500, 1, [10, 0, 10, 499, 10, 500]), [2, 0, 1, 2])

    def test_tol_of_500(self):
        self.assertEqual(days(1, 0, 499, [10, 500]), [0, 0])
        self.assertEqual(days(1, 0, 500, [10, 500]), [1, 1])
        self.assertEqual(days(1, 500, 499, [10, 0]), [0, 0])
        self.assertEqual(days(1, 500, 500, [10, 0]), [1, 1])
        self.assertEqual(days(2, 0, 500, [1, 500, 300, 500, 300, 0]), [1, 1, 1, 0])

    def test_kilograms_of_1_and_of_300(self):
        # 150000 / 301 = 498.3..
        self.assertEqual(days(2, 498, 0, [1, 0, 300, 500]), [0, 0, 0])
        self.assertEqual(days(2, 498, 1, [1, 0, 300, 500]), [1, 1, 1])
        self.assertEqual(days(4, 500, 0, [300, 500] * 9), [2, 1, 1, 1, 1, 2, 2, 2, 2, 0])
        self.assertEqual(days(4, 0, 0, [1, 0] * 9), [2, 1, 1, 1, 1, 2, 2, 2, 2, 0])


class WhichChoice(unittest.TestCase):
    def test_a_day_with_the_least_comes_before_none(self):
        # 1 and 2 are nearer.
        self.assertEqual(days(2, 250, 10, about_250(-10, 0, 0)), [1, 1, 1, 0])
        # 0, 1 and 2, or 1, 3 and 4
        self.assertEqual(days(3, 250, 0, about_250(-30, 10, 20, -3, -7)), [1, 1, 1, 1, 0, 0])

    def test_none_where_a_day_with_the_least_makes_fewer(self):
        # 0, 1 and 2, or both 1, 3 and 4 and 2, 5 and 6
        self.assertEqual(
            days(3, 250, 0, about_250(-30, 10, 20, -3, -7, -6, -14)), [2, 0, 1, 2, 1, 1, 2, 2]
        )
        # The same behind a bale that is in no day at all.
        self.assertEqual(
            days(3, 250, 0, about_250(249, -30, 10, 20, -3, -7, -6, -14)), [2, 0, 0, 1, 2, 1, 1, 2, 2]
        )

    def test_of_two_days_the_one_with_the_lesser_other_bale(self):
        # 0 and 2 are nearer than 0 and 1.
        self.assertEqual(days(2, 250, 10, about_250(0, 20, 0)), [1, 1, 1, 0])
        self.assertEqual(days(2, 250, 10, about_250(0, 21, 0)), [1, 1, 0, 1])

    def test_other_bales_where_they_first_differ(self):
        # 0, 1 and 4, or 0, 2 and 3
        self.assertEqual(days(3, 250, 0, about_250(0, 10, 20, -20, -10)), [1, 1, 1, 0, 0, 1])
        # 0, 1 and 3, or 0, 1 and 4
        self.assertEqual(days(3, 250, 0, about_250(0, 10, -150, -10, -10)), [1, 1, 1, 0, 1, 0])
        # 0, 1, 2 and 6, or 0, 1, 3 and 4
        self.assertEqual(days(4, 250, 0, about_250(1, 2, 10, 40, -43, 249, -13)), [1, 1, 1, 1, 0, 0, 0, 1])

    def test_the_lesser_other_bale_where_it_makes_no_fewer(self):
        # 0 and 1 leave 2 and 3, which are 15 from t; 0 and 2 leave 1 and 3, as 0 and 3 leave 1 and 2.
        self.assertEqual(days(2, 250, 10, about_250(0, 5, -20, -10)), [2, 1, 2, 1, 2])
        # Here 2 and 3 are at t.
        self.assertEqual(days(2, 250, 10, about_250(0, 5, -20, 20)), [2, 1, 1, 2, 2])

    def test_the_same_for_the_bales_that_are_left(self):
        # 0 and 2; then 1 and 3, or 1 and 4
        self.assertEqual(days(2, 250, 0, about_250(50, 10, -50, -10, -10)), [2, 1, 2, 1, 2, 0])
        # 0 and 3 alone; 1 is in no day; 2 with 4 or with 5
        self.assertEqual(days(2, 250, 0, about_250(50, 70, 10, -50, -10, -10)), [2, 1, 0, 2, 1, 2, 0])

    def test_the_first_of_all_where_all_are_alike(self):
        self.assertEqual(days(2, 250, 50, about_250(40, 30, 20, 10, 0)), [2, 1, 1, 2, 2, 0])
        self.assertEqual(days(3, 250, 50, about_250(40, 30, 20, 10, 0)), [1, 1, 1, 1, 0, 0])


class Numbering(unittest.TestCase):
    def test_by_their_least_bales(self):
        # 1 and 2 stand together ahead of 3, yet 0's day is the first.
        self.assertEqual(days(2, 250, 0, about_250(5, 10, -10, -5)), [2, 1, 2, 2, 1])

    def test_each_within_another(self):
        self.assertEqual(
            days(2, 250, 0, about_250(5, 10, 20, 40, 200, -40, -20, -10, -5)), [4, 1, 2, 3, 4, 0, 4, 3, 2, 1]
        )

    def test_neither_by_length_nor_by_how_far(self):
        # At 260, 250 and 240
        self.assertEqual(days(2, 250, 10, about_250(10, 10, 250, -250, -10, -10)), [3, 1, 1, 2, 2, 3, 3])
        self.assertEqual(days(1, 250, 10, about_250(10, 0, -10)), [3, 1, 2, 3])
        self.assertEqual(days(1, 250, 10, about_250(-10, 0, 10)), [3, 1, 2, 3])

    def test_from_the_first_day_there_is(self):
        self.assertEqual(days(1, 250, 0, about_250(9, 9, 0, 9, 0)), [2, 0, 0, 1, 0, 2])
        self.assertEqual(days(2, 250, 0, about_250(9, 7, -7, 1, -1)), [2, 0, 1, 1, 2, 2])


class WrongBales(WrongBalesTests, unittest.TestCase):
    function = staticmethod(days)
    ahead = (1, 250, 10)


class Refused(unittest.TestCase):
    def check(self, k, t, tol, bales):
        with self.subTest(k=k, t=t, tol=tol, bales=bales):
            self.assertEqual(days(k, t, tol, bales), [-22])

    def test_k_out_of_bounds(self):
        for k, count in itertools.product((0, 5, 6, 9, LARGEST), (0, 1, 4, 5, 9)):
            self.check(k, 250, 10, [100, 250] * count)

    def test_t_out_of_bounds(self):
        for t, count in itertools.product((501, LARGEST), (0, 1, 9)):
            self.check(1, t, 10, [100, 500] * count)
            self.check(4, t, 500, [100, 500] * count)

    def test_tol_out_of_bounds(self):
        for tol, count in itertools.product((501, LARGEST), (0, 1, 9)):
            self.check(1, 250, tol, [100, 250] * count)
            self.check(4, 0, tol, [100, 250] * count)

    def test_wrong_bales_whatever_k_t_and_tol(self):
        for k, t, tol in itertools.product((1, 2, 3, 4), (0, 500), (0, 500)):
            self.check(k, t, tol, [100])
            self.check(k, t, tol, [100, 250, 100])
            self.check(k, t, tol, [100, 250] * 10)
            self.check(k, t, tol, [0, 250])
            self.check(k, t, tol, [100, 250, 301, 250])
            self.check(k, t, tol, [100, 501])

    def test_several_faults_are_one_refusal(self):
        self.check(0, 501, 501, [])
        self.check(5, 501, 501, [0, 501])
        self.check(LARGEST, LARGEST, LARGEST, [LARGEST] * 20)
        self.check(0, 0, 0, [0])
        self.check(4, 501, 0, [100])

    def test_just_within_the_bounds_nothing_is_refused(self):
        self.assertEqual(days(1, 0, 0, [1, 0]), [1, 1])
        self.assertEqual(days(4, 500, 500, [300, 500] * 9), [2, 1, 1, 1, 1, 2, 2, 2, 2, 0])
        self.assertEqual(days(4, 0, 500, []), [0])


class Against(unittest.TestCase):
    """days beside a plain search of all choices, in fractions."""

    def test_few_bales(self):
        each = list(itertools.product((1, 2, 300), (0, 249, 500)))
        for count in (0, 1, 2, 3):
            for bales in itertools.product(each, repeat=count):
                self.check(bales, (1, 2, 3, 4), (0, 250), (0, 1, 249, 250))

    def test_bales_of_which_many_are_alike(self):
        for bales in some_bales(40, 6, 3, 245, 11):
            self.check(bales, (1, 2, 3, 4), (250,), (0, 1, 2))

    def test_more_bales(self):
        for bales in some_bales(12, 9, 300, 0, 501):
            self.check(bales, (1, 2), (250,), (15,))
            self.check(bales, (3, 4), (250,), (3, 10))

    def check(self, bales, counts, aims, tolerances):
        told = [number for bale in bales for number in bale]
        for k, t, tol in itertools.product(counts, aims, tolerances):
            with self.subTest(k=k, t=t, tol=tol, bales=told):
                self.assertEqual(days(k, t, tol, told), most_days(k, t, tol, bales))


class Call(CallTests, unittest.TestCase):
    function = staticmethod(days)
    arguments = ("k", "t", "tol", "bales")
    calls = (
        (1, 250, 10, []),
        (1, 250, 10, [217, 253]),
        (2, 250, 10, [10, 250, 10, 250, 10, 235, 10, 235]),
        (3, 266, 20, NINE),
        (4, 266, 20, NINE),
        (4, 250, 10, [217, 253]),
        (0, 250, 10, [217, 253]),
        (5, 250, 10, [217, 253]),
        (1, 501, 10, [217, 253]),
        (1, 250, 501, [217, 253]),
        (1, 250, 10, [100]),
        (1, 250, 10, [0, 250]),
        (1, 250, 10, [100, 501]),
        (1, 250, 10, [100, 250] * 10),
    )


if __name__ == "__main__":
    unittest.main()
