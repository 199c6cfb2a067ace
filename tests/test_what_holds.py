"""Promise 3, over small inputs, against a plain search of all choices; and that no call hangs on an earlier one."""

import itertools
import unittest

from balelayer.bales import days, mean, pick
from tests.helper import alike_days, how_far, most_that_are_apart, some_bales

AIMS = (0, 250, 500)
LET = (0, 1, 5, 20, 125, 250, 500)


def small_bales():
    """None to three bales out of few, and some of six out of more."""
    each = list(itertools.product((1, 300), (0, 249, 251, 500)))
    for count in (0, 1, 2, 3):
        yield from itertools.product(each, repeat=count)
    yield from some_bales(25, 6, 4, 240, 21)
    yield from some_bales(25, 6, 300, 0, 501)


def told(bales):
    return [number for bale in bales for number in bale]


def days_laid(answer):
    """The bales of each day, by what is answered of each bale."""
    return [
        tuple(bale for bale, number in enumerate(answer[1:]) if number == day + 1)
        for day in range(max(answer[1:], default=0))
    ]


class Days(unittest.TestCase):
    def test_each_day_is_k_bales_that_are_alike(self):
        for bales, k, t, tol in self.inputs():
            answer = days(k, t, tol, told(bales))
            laid = days_laid(answer)
            possible = alike_days(k, t, tol, bales)
            with self.subTest(k=k, t=t, tol=tol, bales=bales):
                self.assertEqual(len(answer), 1 + len(bales))
                self.assertEqual(len(laid), answer[0])
                for day in laid:
                    self.assertIn(day, possible)
                self.assertEqual(laid, sorted(laid))

    def test_nobody_lays_down_more_days(self):
        for bales, k, t, tol in self.inputs():
            most = len(most_that_are_apart(k, alike_days(k, t, tol, bales), len(bales))[0])
            with self.subTest(k=k, t=t, tol=tol, bales=bales):
                self.assertEqual(days(k, t, tol, told(bales))[0], most)

    def test_with_more_let_there_are_no_fewer(self):
        for bales, k, t in itertools.product(small_bales(), (1, 2, 3, 4), AIMS):
            counts = [days(k, t, tol, told(bales))[0] for tol in LET]
            with self.subTest(k=k, t=t, bales=bales):
                self.assertEqual(counts, sorted(counts))
                self.assertEqual(counts[-1], len(bales) // k)

    def test_with_a_bale_more_there_are_no_fewer(self):
        for bales, k in itertools.product(some_bales(30, 6, 4, 240, 21), (1, 2, 3, 4)):
            count = days(k, 250, 5, told(bales))[0]
            for place, bale in itertools.product(range(7), ((1, 250), (300, 0), (2, 262))):
                longer = told(bales[:place] + [bale] + bales[place:])
                with self.subTest(k=k, bales=bales, place=place, bale=bale):
                    self.assertGreaterEqual(days(k, 250, 5, longer)[0], count)

    def test_two_days_bales_together_are_alike_too(self):
        pairs = 0
        for bales, k, t, tol in self.inputs():
            for one, other in itertools.combinations(days_laid(days(k, t, tol, told(bales))), 2):
                pairs += 1
                with self.subTest(k=k, t=t, tol=tol, bales=bales):
                    self.assertLessEqual(how_far(t, [bales[bale] for bale in one + other]), tol)
        self.assertGreater(pairs, 0)

    def inputs(self):
        for bales, k in itertools.product(small_bales(), (1, 2, 3, 4)):
            for t, tol in itertools.product(AIMS, (0, 5, 125)):
                yield bales, k, t, tol


class Pick(unittest.TestCase):
    def test_no_other_k_are_nearer(self):
        for bales, t in itertools.product(small_bales(), AIMS):
            for k in range(1, len(bales) + 1):
                answer = pick(k, t, told(bales))
                distance = how_far(t, [bales[bale] for bale in answer[1:]])
                with self.subTest(k=k, t=t, bales=bales):
                    self.assertEqual(len(set(answer[1:])), k)
                    self.assertEqual(answer[0], distance.__floor__())
                    for chosen in itertools.combinations(bales, k):
                        self.assertLessEqual(distance, how_far(t, chosen))


class Mean(unittest.TestCase):
    def test_some_are_on_the_average_between_the_shortest_and_the_longest(self):
        for bales in small_bales():
            for count in range(1, len(bales) + 1):
                for some in itertools.combinations(bales, count):
                    lengths = [length for kilograms, length in some]
                    answer = mean(told(some))
                    with self.subTest(bales=some):
                        self.assertTrue(min(lengths) <= answer[0] <= max(lengths) == answer[2])


class AsForTheFirstTime(unittest.TestCase):
    CALLS = (
        (mean, ([100, 280, 50, 310, 150, 255],), [272, 300, 310]),
        (mean, ([],), [0, 0, 0]),
        (mean, ([100],), [-22]),
        (pick, (2, 280, [100, 280, 50, 310, 150, 255]), [10, 0, 1]),
        (pick, (2, 280, [100, 280]), [-33]),
        (pick, (0, 280, [100, 280]), [-22]),
        (days, (2, 250, 10, [10, 250, 10, 250, 10, 235, 10, 235]), [2, 1, 2, 1, 2]),
        (days, (2, 250, 20, [10, 250, 10, 250, 10, 235, 10, 235]), [2, 1, 1, 2, 2]),
        (days, (2, 250, 10, [10, 250]), [0, 0]),
        (days, (5, 250, 10, [10, 250]), [-22]),
    )

    def test_whatever_was_called_before(self):
        for first, second, third in itertools.product(self.CALLS, repeat=3):
            for function, given, answer in (first, second, third):
                self.assertEqual(function(*given), answer)

    def test_one_list_handed_to_all_stays(self):
        bales = [10, 250, 10, 250, 10, 235, 10, 235]
        for order in itertools.permutations(range(3)):
            for number in order:
                self.assertEqual(
                    (mean(bales), pick(2, 250, bales), days(2, 250, 10, bales))[number],
                    ([242, 40, 250], [0, 0, 1], [2, 1, 2, 1, 2])[number],
                )
                self.assertEqual(bales, [10, 250, 10, 250, 10, 235, 10, 235])


if __name__ == "__main__":
    unittest.main()
