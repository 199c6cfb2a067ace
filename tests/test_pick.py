"""Promise 2, its part on pick, and of promise 3 that no other k bales are nearer."""

import itertools
import unittest
from fractions import Fraction

from balelayer.bales import pick
from tests.helper import LARGEST, CallTests, WrongBalesTests

NINE = [10, 100, 20, 200, 30, 300, 40, 400, 50, 500, 60, 50, 70, 150, 80, 250, 90, 350]


class Ordinary(unittest.TestCase):
    def test_two_of_three(self):
        # 0 and 1: 90; 0 and 2: 85; 1 and 2: 105, each beside 100
        self.assertEqual(pick(2, 100, [10, 70, 10, 110, 10, 100]), [5, 1, 2])

    def test_three_of_five(self):
        # 0, 2 and 4: (240 + 270 + 300) / 3 = 270
        self.assertEqual(pick(3, 270, [50, 240, 50, 490, 50, 270, 50, 10, 50, 300]), [0, 0, 2, 4])

    def test_the_average_counts_kilograms(self):
        # Without kilograms 0 and 1 would be at 250; with them they're at 210, and 0 and 2 at 240.
        self.assertEqual(pick(2, 250, [90, 200, 10, 300, 60, 300]), [10, 0, 2])

    def test_how_far_is_rounded_down_above_t(self):
        # 801 / 3 = 267 and 802 / 3 = 267.3..
        self.assertEqual(pick(2, 266, [1, 267, 2, 267]), [1, 0, 1])
        self.assertEqual(pick(2, 266, [1, 268, 2, 267]), [1, 0, 1])
        self.assertEqual(pick(2, 267, [1, 268, 2, 267]), [0, 0, 1])

    def test_how_far_is_rounded_down_below_t(self):
        # 802 / 3 = 267.3..: 268 is 0.6.. from it, 269 is 1.6.. from it.
        self.assertEqual(pick(2, 268, [1, 268, 2, 267]), [0, 0, 1])
        self.assertEqual(pick(2, 269, [1, 268, 2, 267]), [1, 0, 1])

    def test_the_nearest_one_by_one_need_not_be_the_nearest_together(self):
        # Each of 1 and 2 is farther than each of 0 and 3, yet together they are at t.
        self.assertEqual(pick(2, 250, [10, 240, 10, 200, 10, 300, 10, 241]), [0, 1, 2])

    def test_these_are_told_rising(self):
        self.assertEqual(pick(3, 300, [10, 0, 10, 320, 10, 0, 10, 290, 10, 290]), [0, 1, 3, 4])


class Edges(unittest.TestCase):
    def test_k_of_1(self):
        self.assertEqual(pick(1, 250, [100, 240, 100, 255, 100, 500]), [5, 1])
        self.assertEqual(pick(1, 250, [100, 244, 100, 240, 100, 245]), [5, 2])
        self.assertEqual(pick(1, 250, [100, 247]), [3, 0])

    def test_all_alike(self):
        for k in range(1, 10):
            self.assertEqual(pick(k, 260, [70, 290] * 9), [30] + list(range(k)))

    def test_of_like_ones_the_lesser_bale_where_they_first_differ(self):
        # 0 and 3, 1 and 2: both at 250.
        self.assertEqual(pick(2, 250, [10, 200, 10, 220, 10, 280, 10, 300]), [0, 0, 3])
        # 1 and 2 as well as 1 and 3: the first that differs is the second bale.
        self.assertEqual(pick(2, 250, [10, 0, 10, 240, 10, 260, 10, 260]), [0, 1, 2])

    def test_like_ones_on_both_sides_of_t(self):
        self.assertEqual(pick(1, 250, [10, 240, 10, 260]), [10, 0])
        self.assertEqual(pick(1, 250, [10, 260, 10, 240]), [10, 0])

    def test_a_heavy_bale_and_light_ones(self):
        # 0 and 1: 60400 / 301 = 200.6..; 0 and 2: 60500 / 301 = 200.9..; 1 and 2: 450
        self.assertEqual(pick(2, 300, [300, 200, 1, 400, 1, 500]), [99, 0, 2])
        self.assertEqual(pick(2, 400, [300, 200, 1, 400, 1, 500]), [50, 1, 2])
        # 0, 1 and 2: 60500 / 302; 0, 2 and 3: 60300 / 302; both are 100 / 302 from t.
        self.assertEqual(pick(3, 200, [1, 0, 1, 500, 300, 200, 1, 300]), [0, 0, 1, 2])
        self.assertEqual(pick(3, 200, [1, 0, 1, 500, 300, 200, 1, 301]), [0, 0, 2, 3])

    def test_nine_bales(self):
        self.assertEqual(pick(1, 349, NINE), [1, 8])
        # 3 and 4: 41000 / 90 = 455.5..; 0 and 5: 4000 / 70 = 57.1..
        self.assertEqual(pick(2, 500, NINE), [44, 3, 4])
        self.assertEqual(pick(2, 50, NINE), [7, 0, 5])

    def test_k_of_9_with_nine_bales(self):
        # 120000 / 450 = 266.6..
        self.assertEqual(pick(9, 266, NINE), [0] + list(range(9)))
        self.assertEqual(pick(9, 268, NINE), [1] + list(range(9)))
        self.assertEqual(pick(9, 0, NINE), [266] + list(range(9)))
        self.assertEqual(pick(9, 500, NINE), [233] + list(range(9)))

    def test_as_many_bales_as_k(self):
        for k in range(1, 10):
            self.assertEqual(pick(k, 150, [10, 100] * k), [50] + list(range(k)))

    def test_t_of_0_and_of_500(self):
        self.assertEqual(pick(1, 0, [10, 250, 10, 3, 10, 490]), [3, 1])
        self.assertEqual(pick(1, 500, [10, 250, 10, 3, 10, 490]), [10, 2])
        self.assertEqual(pick(2, 0, [10, 250, 10, 3, 10, 490]), [126, 0, 1])
        self.assertEqual(pick(2, 500, [10, 250, 10, 3, 10, 490]), [130, 0, 2])

    def test_kilograms_of_1_and_of_300(self):
        self.assertEqual(pick(1, 250, [1, 250]), [0, 0])
        self.assertEqual(pick(1, 250, [300, 250]), [0, 0])
        # 300 * 500 / 301 = 498.3.. and 500 / 301 = 1.6..
        self.assertEqual(pick(2, 0, [1, 0, 300, 500]), [498, 0, 1])
        self.assertEqual(pick(2, 0, [1, 500, 300, 0]), [1, 0, 1])

    def test_fibres_of_0_and_of_500(self):
        self.assertEqual(pick(1, 0, [10, 500, 10, 0]), [0, 1])
        self.assertEqual(pick(1, 500, [10, 500, 10, 0]), [0, 0])
        self.assertEqual(pick(1, 500, [10, 0]), [500, 0])
        self.assertEqual(pick(1, 0, [10, 500]), [500, 0])
        self.assertEqual(pick(2, 250, [10, 500, 10, 0]), [0, 0, 1])

    def test_distances_that_differ_by_less_than_one(self):
        # 0 and 1: 0.5 from t; 0 and 2: 1 / 3 from t; both are 0, rounded down.
        self.assertEqual(pick(2, 100, [10, 100, 10, 101, 5, 101]), [0, 0, 2])
        # Below t: 0 and 1 are 1.5 from it, 0 and 2 are 1.25 from it.
        self.assertEqual(pick(2, 102, [15, 101, 15, 100, 5, 100]), [1, 0, 2])
        # 0 and 1: 299 / 300 from t; 0 and 2: 298 / 299; they differ by 1 / 89700.
        self.assertEqual(pick(2, 100, [1, 100, 299, 101, 298, 101]), [0, 0, 2])
        self.assertEqual(pick(2, 100, [1, 100, 298, 101, 299, 101]), [0, 0, 1])

    def test_the_same_fraction_with_different_kilograms(self):
        self.assertEqual(pick(1, 250, [300, 260, 1, 260]), [10, 0])
        self.assertEqual(pick(1, 250, [1, 260, 300, 260]), [10, 0])
        # 0 and 1 are 1 / 2 from t, 2 and 3 are 2 / 4 from it, or the other way about; all others are farther.
        self.assertEqual(pick(2, 100, [1, 0, 1, 201, 2, 20, 2, 181]), [0, 0, 1])
        self.assertEqual(pick(2, 100, [2, 0, 2, 201, 1, 20, 1, 181]), [0, 0, 1])
        # Undivided, 300 kilograms at 1 from t would seem farther than one kilogram at 10 from it.
        self.assertEqual(pick(1, 250, [300, 251, 1, 260]), [1, 0])
        self.assertEqual(pick(1, 250, [1, 260, 300, 251]), [1, 1])


class WrongBales(WrongBalesTests, unittest.TestCase):
    function = staticmethod(pick)
    ahead = (1, 250)


class Refused(unittest.TestCase):
    def check(self, number, k, t, bales):
        with self.subTest(k=k, t=t, bales=bales):
            self.assertEqual(pick(k, t, bales), [number])

    def test_k_out_of_bounds(self):
        for k, count in itertools.product((0, 10, LARGEST), (1, 9)):
            self.check(-22, k, 250, [100, 250] * count)

    def test_t_out_of_bounds(self):
        for t, count in itertools.product((501, LARGEST), (1, 9)):
            self.check(-22, 1, t, [100, 250] * count)

    def test_fewer_than_k(self):
        for k in range(1, 10):
            for count in range(k):
                self.check(-33, k, 250, [100, 250] * count)

    def test_no_bales(self):
        for k in range(1, 10):
            self.check(-33, k, 0, [])
            self.check(-33, k, 500, [])

    def test_where_both_are_due_the_one_told_first(self):
        self.check(-22, 10, 250, [])
        self.check(-22, 10, 250, [100, 250] * 9)
        self.check(-22, LARGEST, 250, [100, 250])
        self.check(-22, 1, 501, [])
        self.check(-22, 9, LARGEST, [100, 250] * 8)
        self.check(-22, 1, 250, [100])
        self.check(-22, 2, 250, [100, 250, 100])
        self.check(-22, 2, 250, [0, 250])
        self.check(-22, 2, 250, [301, 250])
        self.check(-22, 9, 250, [100, 501])

    def test_several_faults_are_one_refusal(self):
        self.check(-22, 0, 501, [])
        self.check(-22, 10, 501, [0, 501])
        self.check(-22, LARGEST, LARGEST, [LARGEST] * 20)
        self.check(-22, 0, 0, [0])

    def test_just_within_the_bounds_nothing_is_refused(self):
        self.assertEqual(pick(1, 500, [300, 500]), [0, 0])
        self.assertEqual(pick(9, 0, [1, 0] * 9), [0] + list(range(9)))
        self.assertEqual(pick(9, 500, [300, 500] * 9), [0] + list(range(9)))


class Against(unittest.TestCase):
    """pick beside the words' own formula, in fractions, held against all choices of k."""

    def test_few_bales(self):
        each = list(itertools.product((1, 2, 300), (0, 249, 500)))
        for count in (1, 2, 3):
            for bales in itertools.product(each, repeat=count):
                self.check(bales, (0, 250, 500))

    def test_many_bales(self):
        for start in range(60):
            kilograms = [1 + (start * 71 + place * place * 37) % 300 for place in range(9)]
            lengths = [(start * 113 + place * place * 59 + place * 17) % 501 for place in range(9)]
            self.check(list(zip(kilograms, lengths))[start % 4:], (0, 230, 267, 500))

    def test_bales_of_which_many_are_like(self):
        for start in range(60):
            kilograms = [1 + (start + place * place) % 3 for place in range(7)]
            lengths = [248 + (start * 3 + place * 2) % 5 for place in range(7)]
            self.check(list(zip(kilograms, lengths)), (249, 250))

    def check(self, bales, aims):
        told = [number for bale in bales for number in bale]
        for k, t in itertools.product(range(1, len(bales) + 1), aims):
            # Of pairs with like distances the least is the one whose choice has the lesser bale where they differ.
            distance, chosen = min(
                (self.distance(t, [bales[number] for number in chosen]), chosen)
                for chosen in itertools.combinations(range(len(bales)), k)
            )
            with self.subTest(k=k, t=t, bales=told):
                self.assertEqual(pick(k, t, told), [distance.__floor__(), *chosen])

    def distance(self, t, bales):
        all_kilograms = sum(kilograms for kilograms, length in bales)
        return abs(Fraction(sum(kilograms * length for kilograms, length in bales), all_kilograms) - t)


class Call(CallTests, unittest.TestCase):
    function = staticmethod(pick)
    arguments = ("k", "t", "bales")
    calls = (
        (1, 250, []),
        (1, 250, [217, 283]),
        (2, 250, [100, 280, 50, 310, 150, 255]),
        (3, 250, NINE),
        (9, 250, [300, 500] * 9),
        (2, 250, [217, 283]),
        (0, 250, [217, 283]),
        (10, 250, [217, 283]),
        (1, 501, [217, 283]),
        (1, 250, [100]),
        (1, 250, [0, 250]),
        (1, 250, [100, 501]),
        (1, 250, [100, 250] * 10),
    )


if __name__ == "__main__":
    unittest.main()
