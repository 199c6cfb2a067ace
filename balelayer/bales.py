"""Bales of cotton, told one behind another: of each its kilograms, then how long its fibres are."""

MOST_BALES = 9
LEAST_KILOGRAMS = 1
MOST_KILOGRAMS = 300
LONGEST_FIBRES = 500


def are_as_told(bales):
    """Whether the list is at most nine whole bales, each within its bounds."""
    if len(bales) % 2 != 0 or len(bales) > 2 * MOST_BALES:
        return False
    for kilograms, length in zip(bales[0::2], bales[1::2]):
        if kilograms < LEAST_KILOGRAMS or kilograms > MOST_KILOGRAMS:
            return False
        if length < 0 or length > LONGEST_FIBRES:
            return False
    return True


def mean(bales):
    """How long all are on the average, rounded down, then all kilograms, then the longest; or -22 alone."""
    if not are_as_told(bales):
        return [-22]
    # Without bales there are no kilograms to divide by.
    if len(bales) == 0:
        return [0, 0, 0]
    kilograms = bales[0::2]
    lengths = bales[1::2]
    together = sum([weight * length for weight, length in zip(kilograms, lengths)])
    return [together // sum(kilograms), sum(kilograms), max(lengths)]
