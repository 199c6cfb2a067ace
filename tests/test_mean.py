"""Promise 1: balelayer.bales.mean, and what the document says ahead of it."""

import contextlib
import inspect
import io
import itertools
import unittest
from fractions import Fraction

from balelayer.bales import mean

LARGEST = 4294967295


class Ordinary(unittest.TestCase):
    def test_two_bales(self):
        self.assertEqual(mean([100, 300, 200, 240]), [260, 300, 300])

    def test_three_bales(self):
        # 100 * 280 + 50 * 310 + 150 * 255 = 81750, and 81750 / 300 = 272.5
        self.assertEqual(mean([100, 280, 50, 310, 150, 255]), [272, 300, 310])

    def test_the_average_is_rounded_down(self):
        self.assertEqual(mean([1, 0, 1, 1]), [0, 2, 1])
        self.assertEqual(mean([1, 10, 2, 11]), [10, 3, 11])
        self.assertEqual(mean([1, 499, 299, 500]), [499, 300, 500])

    def test_an_average_without_a_rest_stays(self):
        self.assertEqual(mean([1, 10, 1, 12]), [11, 2, 12])

    def test_the_longest_may_stand_anywhere(self):
        self.assertEqual(mean([10, 400, 10, 100, 10, 100]), [200, 30, 400])
        self.assertEqual(mean([10, 100, 10, 400, 10, 100]), [200, 30, 400])
        self.assertEqual(mean([10, 100, 10, 100, 10, 400]), [200, 30, 400])


class Edges(unittest.TestCase):
    def test_no_bales(self):
        self.assertEqual(mean([]), [0, 0, 0])

    def test_one_bale(self):
        self.assertEqual(mean([217, 283]), [283, 217, 283])

    def test_all_alike(self):
        self.assertEqual(mean([70, 290, 70, 290, 70, 290]), [290, 210, 290])
        self.assertEqual(mean([7, 290, 300, 290, 1, 290]), [290, 308, 290])

    def test_a_heavy_bale_and_light_ones(self):
        self.assertEqual(mean([300, 200, 1, 500, 1, 500]), [201, 302, 500])
        self.assertEqual(mean([1, 0, 1, 0, 300, 500]), [496, 302, 500])

    def test_nine_bales(self):
        nine = [10, 100, 20, 200, 30, 300, 40, 400, 50, 500, 60, 50, 70, 150, 80, 250, 90, 350]
        # 120000 / 450 = 266.6..
        self.assertEqual(mean(nine), [266, 450, 500])
        self.assertEqual(mean([300, 500] * 9), [500, 2700, 500])
        self.assertEqual(mean([1, 0] * 9), [0, 9, 0])

    def test_the_least_and_the_most_kilograms(self):
        self.assertEqual(mean([1, 250]), [250, 1, 250])
        self.assertEqual(mean([300, 250]), [250, 300, 250])
        self.assertEqual(mean([1, 500, 300, 0]), [1, 301, 500])

    def test_the_shortest_and_the_longest_fibres(self):
        self.assertEqual(mean([100, 0]), [0, 100, 0])
        self.assertEqual(mean([100, 500]), [500, 100, 500])
        self.assertEqual(mean([100, 0, 100, 500]), [250, 200, 500])


class Refused(unittest.TestCase):
    def check(self, bales):
        with self.subTest(bales=bales):
            self.assertEqual(mean(bales), [-22])

    def test_an_odd_list(self):
        self.check([100])
        self.check([0])
        self.check([100, 250, 100])
        self.check([100, 250] * 8 + [100])
        self.check([100, 250] * 9 + [100])

    def test_a_tenth_bale(self):
        self.check([100, 250] * 10)
        self.check([1, 0] * 10)

    def test_kilograms_out_of_bounds_at_each_place(self):
        self.check_each_place(0, [0, 301, LARGEST])

    def test_fibres_out_of_bounds_at_each_place(self):
        self.check_each_place(1, [501, LARGEST])

    def check_each_place(self, offset, wrong_numbers):
        for count in (1, 2, 9):
            for place, wrong in itertools.product(range(count), wrong_numbers):
                bales = [100, 250] * count
                bales[2 * place + offset] = wrong
                self.check(bales)

    def test_several_faults_are_one_refusal(self):
        self.check([0, 501])
        self.check([LARGEST, LARGEST])
        self.check([301, 501, 0])
        self.check([0, LARGEST] * 10)


class Against(unittest.TestCase):
    """mean beside the words' own formula, in fractions, over all that the numbers below make."""

    def test_one_to_three_bales(self):
        each = list(itertools.product((1, 2, 7, 299, 300), (0, 1, 250, 499, 500)))
        for count in (1, 2, 3):
            for chosen in itertools.product(each, repeat=count):
                self.check(chosen)

    def check(self, chosen):
        all_kilograms = sum(kilograms for kilograms, length in chosen)
        average = sum(Fraction(kilograms * length, all_kilograms) for kilograms, length in chosen)
        lengths = [length for kilograms, length in chosen]
        answer = mean([number for bale in chosen for number in bale])
        self.assertEqual(answer, [average.__floor__(), all_kilograms, max(lengths)])
        self.assertTrue(min(lengths) <= answer[0] <= max(lengths))


class Call(unittest.TestCase):
    CALLS = ([], [217, 283], [100, 280, 50, 310], [300, 500] * 9, [100], [0, 250], [100, 501], [100, 250] * 10)

    def test_what_is_handed_in_stays(self):
        for bales in self.CALLS:
            handed_in = list(bales)
            mean(handed_in)
            self.assertEqual(handed_in, bales)

    def test_it_is_not_changed_for_a_while_either(self):
        for bales in self.CALLS:
            self.assertEqual(mean(Frozen(bales)), mean(bales))

    def test_a_second_call_answers_as_the_first(self):
        first = [mean(list(bales)) for bales in self.CALLS]
        second = [mean(list(bales)) for bales in self.CALLS]
        backwards = [mean(list(bales)) for bales in reversed(self.CALLS)]
        self.assertEqual(second, first)
        self.assertEqual(backwards, first[::-1])

    def test_each_call_gives_back_a_list_of_its_own(self):
        for bales in self.CALLS:
            first = mean(bales)
            kept = list(first)
            first.append(7)
            first[0] = 8
            self.assertEqual(mean(bales), kept)

    def test_the_answer_is_a_list_of_whole_numbers(self):
        for bales in self.CALLS:
            answer = mean(bales)
            self.assertIs(type(answer), list)
            for number in answer:
                self.assertIs(type(number), int)

    def test_the_argument_is_called_bales(self):
        self.assertEqual(list(inspect.signature(mean).parameters), ["bales"])
        self.assertEqual(mean(bales=[217, 283]), [283, 217, 283])

    def test_nothing_is_printed(self):
        printed = io.StringIO()
        with contextlib.redirect_stdout(printed), contextlib.redirect_stderr(printed):
            for bales in self.CALLS:
                mean(bales)
        self.assertEqual(printed.getvalue(), "")


def refuse_change(self, *given, **named):
    raise AssertionError("what is handed in was changed")


class Frozen(list):
    """A list that tells when it is changed, even if it is put back afterwards."""

    __setitem__ = __delitem__ = __iadd__ = __imul__ = refuse_change
    append = clear = extend = insert = pop = remove = reverse = sort = refuse_change


if __name__ == "__main__":
    unittest.main()
