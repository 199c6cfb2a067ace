"""Bales of cotton, told one behind another: of each its kilograms, then how long its fibres are."""

MOST_BALES = 9
LEAST_KILOGRAMS = 1
MOST_KILOGRAMS = 300
LONGEST_FIBRES = 500
MOST_OF_A_DAY = 4
MOST_LET = 500


def are_as_told(bales):
    """Whether the list is at most nine whole bales, each within its bounds."""
    if len(bales) % 2 != 0 or len(bales) > 2 * MOST_BALES:
        return False
    for kilograms, length in zip(bales[0::2], bales[1::2]):
        if kilograms < LEAST_KILOGRAMS or kilograms > MOST_KILOGRAMS:
            return False
        if length < 0 or length > LONGEST_FIBRES:
            return False
    return True


def all_kilograms(bales):
    """The kilograms of all the bales."""
    return sum(bales[0::2])


def weighed_lengths(bales):
    """Of each bale its kilograms times how long, together: what all kilograms divide to the average."""
    return sum([weight * length for weight, length in zip(bales[0::2], bales[1::2])])


def mean(bales):
    """How long all are on the average, rounded down, then all kilograms, then the longest; or -22 alone."""
    if not are_as_told(bales):
        return [-22]
    # Without bales there are no kilograms to divide by.
    if len(bales) == 0:
        return [0, 0, 0]
    kilograms = all_kilograms(bales)
    return [weighed_lengths(bales) // kilograms, kilograms, max(bales[1::2])]


def choices_of(k, count):
    """All choices of k of the bales 0 to count - 1, each told rising, in the order in which they first differ."""
    choices = [[]]
    for place in range(k):
        longer = []
        for chosen in choices:
            first = chosen[-1] + 1 if len(chosen) > 0 else 0
            for bale in range(first, count):
                longer.append(chosen + [bale])
        choices = longer
    return choices


def only(chosen, bales):
    """The chosen bales alone, told as all are."""
    told = []
    for bale in chosen:
        told.extend(bales[2 * bale:2 * bale + 2])
    return told


def how_far(t, bales):
    """How far the bales, one at least, are from t: the two numbers of a fraction, the upper one first."""
    kilograms = all_kilograms(bales)
    return (abs(weighed_lengths(bales) - t * kilograms), kilograms)


def is_less(one, other):
    """Whether one fraction is less than the other; crosswise, as a quotient rounded down would lose the rest."""
    return one[0] * other[1] < other[0] * one[1]


def nearest(k, t, bales):
    """The k bales that are the least far from t, told rising, of at least k."""
    choices = choices_of(k, len(bales) // 2)
    best = choices[0]
    for chosen in choices[1:]:
        # One that is as far stays behind: the earlier choice has the lesser bale where they first differ.
        if is_less(how_far(t, only(chosen, bales)), how_far(t, only(best, bales))):
            best = chosen
    return best


def pick(k, t, bales):
    """How far the nearest k bales to t are, rounded down, then these, told rising; or -22 or -33 alone."""
    if not are_as_told(bales) or k < 1 or k > MOST_BALES or t > LONGEST_FIBRES:
        return [-22]
    if len(bales) // 2 < k:
        return [-33]
    chosen = nearest(k, t, bales)
    distance = how_far(t, only(chosen, bales))
    return [distance[0] // distance[1]] + chosen


def are_alike(t, tol, bales):
    """Whether the bales, one at least, are at most tol far from t."""
    return not is_less((tol, 1), how_far(t, bales))


def possible_days(k, t, tol, bales):
    """All k bales that are alike, each told rising, in the order in which they first differ."""
    return [chosen for chosen in choices_of(k, len(bales) // 2) if are_alike(t, tol, only(chosen, bales))]


def how_many(laid):
    """How many days are laid down: the highest that is told of a bale, 0 without bales."""
    return max(laid, default=0)


def are_left(day, laid):
    """Whether no bale of the day is in one that is laid down."""
    return all([laid[bale] == 0 for bale in day])


def with_day(day, laid):
    """What is laid down with this day behind the others."""
    number = how_many(laid) + 1
    return [number if bale in day else before for bale, before in enumerate(laid)]


def all_ways(possible, count):
    """All ways to lay down possible days, told as of each bale its day and one more, or 0; those taken first ahead."""
    ways = [[0] * count]
    for least in range(count):
        days_with_it = [day for day in possible if day[0] == least]
        longer = []
        for laid in ways:
            longer.extend([with_day(day, laid) for day in days_with_it if are_left(day, laid)])
            # Behind those with a day comes none; a bale that an earlier day has stays in that one.
            longer.append(laid)
        ways = longer
    return ways


def days(k, t, tol, bales):
    """How many days the most are, of k bales within tol of t, then of each bale its day; or -22 alone."""
    if not are_as_told(bales) or k < 1 or k > MOST_OF_A_DAY or t > LONGEST_FIBRES or tol > MOST_LET:
        return [-22]
    # Of ways that come to as many days max takes the first.
    laid = max(all_ways(possible_days(k, t, tol, bales), len(bales) // 2), key=how_many)
    return [how_many(laid)] + laid
