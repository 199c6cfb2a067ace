"""What the tests of several functions share."""

import contextlib
import inspect
import io
import itertools
from fractions import Fraction

LARGEST = 4294967295


def some_bales(lists, count, kilograms, shortest, lengths):
    """So many lists of bales, the same each time: kilograms of 1 on, lengths of the shortest on, so many of each."""
    for start in range(lists):
        yield [
            (
                1 + (start * 71 + place * place * 37 + place) % kilograms,
                shortest + (start * 113 + place * place * 59 + place * 17) % lengths,
            )
            for place in range(count)
        ]


def how_far(t, bales):
    """How far the bales, told as pairs, are from t."""
    all_kilograms = sum(kilograms for kilograms, length in bales)
    return abs(Fraction(sum(kilograms * length for kilograms, length in bales), all_kilograms) - t)


def alike_days(k, t, tol, bales):
    """All k of the bales, told as pairs, that are at most tol far from t."""
    every = itertools.combinations(range(len(bales)), k)
    return [day for day in every if how_far(t, [bales[bale] for bale in day]) <= tol]


def most_that_are_apart(k, possible, count):
    """All choices of the most of the possible days, of k out of count bales, of which no two share a bale."""
    for number in range(count // k, -1, -1):
        every = itertools.combinations(possible, number)
        found = [chosen for chosen in every if len({bale for day in chosen for bale in day}) == number * k]
        if found:
            return found


def steps_of(chosen, count):
    """What becomes of the least bale that is left, step by step: of two choices the one taken has the lesser steps."""
    others = {day[0]: day[1:] for day in chosen}
    not_least = {bale for day in chosen for bale in day[1:]}
    left = [bale for bale in range(count) if bale not in not_least]
    return [(0, others[bale]) if bale in others else (1, ()) for bale in left]


def most_days(k, t, tol, bales):
    """What days is to answer of the bales, told as pairs."""
    every = most_that_are_apart(k, alike_days(k, t, tol, bales), len(bales))
    chosen = min(every, key=lambda choice: steps_of(choice, len(bales)))
    numbers = [0] * len(bales)
    for number, day in enumerate(sorted(chosen), start=1):
        for bale in day:
            numbers[bale] = number
    return [len(chosen), *numbers]


class WrongBalesTests:
    """The bales that aren't as told, refused by every function.

    A test case beside it gives `function` and `ahead`, what is handed in ahead of the bales and is right by itself.
    """

    function = None
    ahead = ()

    def check(self, bales):
        with self.subTest(bales=bales):
            self.assertEqual(self.function(*self.ahead, bales), [-22])

    def test_an_odd_list(self):
        self.check([100])
        self.check([0])
        self.check([100, 250, 100])
        self.check([100, 250] * 8 + [100])
        self.check([100, 250] * 9 + [100])

    def test_a_tenth_bale(self):
        self.check([100, 250] * 10)
        self.check([1, 0] * 10)

    def test_kilograms_out_of_bounds_at_each_place(self):
        self.check_each_place(0, [0, 301, LARGEST])

    def test_fibres_out_of_bounds_at_each_place(self):
        self.check_each_place(1, [501, LARGEST])

    def check_each_place(self, offset, wrong_numbers):
        for count in (1, 2, 9):
            for place, wrong in itertools.product(range(count), wrong_numbers):
                bales = [100, 250] * count
                bales[2 * place + offset] = wrong
                self.check(bales)

    def test_several_wrong_numbers_are_one_refusal(self):
        self.check([0, 501])
        self.check([LARGEST, LARGEST])
        self.check([301, 501, 0])
        self.check([0, LARGEST] * 10)


class CallTests:
    """What is told of every call, whatever the function.

    A test case beside it gives `function`, `arguments` (the names in their order) and `calls`: of each call what is
    handed in, as a tuple whose last is the bales.
    """

    function = None
    arguments = ()
    calls = ()

    def answers(self, calls):
        return [self.function(*call[:-1], list(call[-1])) for call in calls]

    def test_what_is_handed_in_stays(self):
        for call in self.calls:
            handed_in = list(call[-1])
            self.function(*call[:-1], handed_in)
            self.assertEqual(handed_in, call[-1])

    def test_it_is_not_changed_for_a_while_either(self):
        for call in self.calls:
            self.assertEqual(self.function(*call[:-1], Frozen(call[-1])), self.function(*call))

    def test_a_second_call_answers_as_the_first(self):
        first = self.answers(self.calls)
        self.assertEqual(self.answers(self.calls), first)
        self.assertEqual(self.answers(reversed(self.calls)), first[::-1])

    def test_each_call_gives_back_a_list_of_its_own(self):
        for call in self.calls:
            first = self.function(*call)
            kept = list(first)
            first.append(7)
            first[0] = 8
            self.assertEqual(self.function(*call), kept)

    def test_the_answer_is_a_list_of_whole_numbers(self):
        for answer in self.answers(self.calls):
            self.assertIs(type(answer), list)
            for number in answer:
                self.assertIs(type(number), int)

    def test_the_arguments_have_the_names_of_the_interface(self):
        self.assertEqual(tuple(inspect.signature(self.function).parameters), self.arguments)
        for call in self.calls:
            self.assertEqual(self.function(**dict(zip(self.arguments, call))), self.function(*call))

    def test_nothing_is_printed(self):
        printed = io.StringIO()
        with contextlib.redirect_stdout(printed), contextlib.redirect_stderr(printed):
            self.answers(self.calls)
        self.assertEqual(printed.getvalue(), "")


def refuse_change(self, *given, **named):
    raise AssertionError("what is handed in was changed")


class Frozen(list):
    """A list that tells when it is changed, even if it is put back afterwards."""

    __setitem__ = __delitem__ = __iadd__ = __imul__ = refuse_change
    append = clear = extend = insert = pop = remove = reverse = sort = refuse_change
