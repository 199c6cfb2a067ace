"""Promise 1: balelayer.bales.mean, and what the document says ahead of it."""

import itertools
import unittest
from fractions import Fraction

from balelayer.bales import mean
from tests.helper import CallTests, WrongBalesTests


class Ordinary(unittest.TestCase):
    def test_two_bales(self):
        self.assertEqual(mean([100, 300, 200, 240]), [260, 300, 300])

    def test_three_bales(self):
        # 100 * 280 + 50 * 310 + 150 * 255 = 81750, and 81750 / 300 = 272.5
        self.assertEqual(mean([100, 280, 50, 310, 150, 255]), [272, 300, 310])

    def test_the_average_is_rounded_down(self):
        self.assertEqual(mean([1, 0, 1, 1]), [0, 2, 1])
        self.assertEqual(mean([1, 10, 2, 11]), [10, 3, 11])
        self.assertEqual(mean([1, 499, 299, 500]), [499, 300, 500])

    def test_an_average_without_a_rest_stays(self):
        self.assertEqual(mean([1, 10, 1, 12]), [11, 2, 12])

    def test_the_longest_may_stand_anywhere(self):
        self.assertEqual(mean([10, 400, 10, 100, 10, 100]), [200, 30, 400])
        self.assertEqual(mean([10, 100, 10, 400, 10, 100]), [200, 30, 400])
        self.assertEqual(mean([10, 100, 10, 100, 10, 400]), [200, 30, 400])


class Edges(unittest.TestCase):
    def test_no_bales(self):
        self.assertEqual(mean([]), [0, 0, 0])

    def test_one_bale(self):
        self.assertEqual(mean([217, 283]), [283, 217, 283])

    def test_all_alike(self):
        self.assertEqual(mean([70, 290, 70, 290, 70, 290]), [290, 210, 290])
        self.assertEqual(mean([7, 290, 300, 290, 1, 290]), [290, 308, 290])

    def test_a_heavy_bale_and_light_ones(self):
        self.assertEqual(mean([300, 200, 1, 500, 1, 500]), [201, 302, 500])
        self.assertEqual(mean([1, 0, 1, 0, 300, 500]), [496, 302, 500])

    def test_nine_bales(self):
        nine = [10, 100, 20, 200, 30, 300, 40, 400, 50, 500, 60, 50, 70, 150, 80, 250, 90, 350]
        # 120000 / 450 = 266.6..
        self.assertEqual(mean(nine), [266, 450, 500])
        self.assertEqual(mean([300, 500] * 9), [500, 2700, 500])
        self.assertEqual(mean([1, 0] * 9), [0, 9, 0])

    def test_the_least_and_the_most_kilograms(self):
        self.assertEqual(mean([1, 250]), [250, 1, 250])
        self.assertEqual(mean([300, 250]), [250, 300, 250])
        self.assertEqual(mean([1, 500, 300, 0]), [1, 301, 500])

    def test_the_shortest_and_the_longest_fibres(self):
        self.assertEqual(mean([100, 0]), [0, 100, 0])
        self.assertEqual(mean([100, 500]), [500, 100, 500])
        self.assertEqual(mean([100, 0, 100, 500]), [250, 200, 500])


class WrongBales(WrongBalesTests, unittest.TestCase):
    function = staticmethod(mean)


class Against(unittest.TestCase):
    """mean beside the words' own formula, in fractions, over all that the numbers below make."""

    def test_one_to_three_bales(self):
        each = list(itertools.product((1, 2, 7, 299, 300), (0, 1, 250, 499, 500)))
        for count in (1, 2, 3):
            for chosen in itertools.product(each, repeat=count):
                self.check(chosen)

    def check(self, chosen):
        all_kilograms = sum(kilograms for kilograms, length in chosen)
        average = sum(Fraction(kilograms * length, all_kilograms) for kilograms, length in chosen)
        lengths = [length for kilograms, length in chosen]
        answer = mean([number for bale in chosen for number in bale])
        self.assertEqual(answer, [average.__floor__(), all_kilograms, max(lengths)])
        self.assertTrue(min(lengths) <= answer[0] <= max(lengths))


class Call(CallTests, unittest.TestCase):
    function = staticmethod(mean)
    arguments = ("bales",)
    calls = (
        ([],),
        ([217, 283],),
        ([100, 280, 50, 310],),
        ([300, 500] * 9,),
        ([100],),
        ([0, 250],),
        ([100, 501],),
        ([100, 250] * 10,),
    )


if __name__ == "__main__":
    unittest.main()
