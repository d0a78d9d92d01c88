"""Views by three marks each, (t, m), and by what they do; double ratios as the document's words tell them."""

from fractions import Fraction

HALF = [(0, 0), (10, 20), (30, 60)]             # t = m / 2
TURNED = [(1000, 0), (990, 10), (0, 1000)]      # t = 1000 - m
BACK_BY_TEN = [(0, 10), (5, 15), (20, 30)]      # t = m - 10
ROAD = [(0, 0), (50, 100), (75, 300)]           # t = 100 m / (m + 100)
BROKEN = [(0, 0), (200, 100), (150, 150)]       # t = 100 m / (m - 50)
INVERSE = [(1000, 1), (500, 2), (10, 100)]      # t = 1000 / m
FALLING = [(100, 0), (0, 100), (60, 25)]        # t = (10000 - 100 m) / (m + 100)
UNEVEN = [(0, 0), (1, 1), (2, 6)]               # t = 5 m / (2 m + 3)
VIEWS = [HALF, TURNED, BACK_BY_TEN, ROAD, BROKEN, INVERSE, FALLING, UNEVEN]

# Each view with its a, b, c, d: t = (a m + b) / (c m + d).
NUMBERED_VIEWS = [
    (HALF, (1, 0, 0, 2)), (TURNED, (-1, 1000, 0, 1)), (BACK_BY_TEN, (1, -10, 0, 1)),
    (ROAD, (100, 0, 1, 100)), (BROKEN, (100, 0, 1, -50)), (INVERSE, (0, 1000, 1, 0)),
    (FALLING, (-100, 10000, 1, 100)), (UNEVEN, (5, 0, 2, 3))]

# Stands for the point beyond all, where other points are fractions.
BEYOND = None


def seen_by(numbers, m):
    """Where a point of truth that isn't beyond all is seen."""
    a, b, c, d = numbers
    return BEYOND if c * m + d == 0 else Fraction(a * m + b) / Fraction(c * m + d)


def true_by(numbers, t):
    """What's in truth at a point of the picture that isn't beyond all."""
    a, b, c, d = numbers
    return seen_by((d, -b, -c, a), t)


def more(point, other):
    """How much a point is more than another; 1, as if it were left out, if just one is beyond all."""
    if point == other:
        return Fraction(0)
    if point is BEYOND or other is BEYOND:
        return Fraction(1)
    return Fraction(point) - Fraction(other)


def ratio_sides(a, b, c, d):
    """What stands above and below in the double ratio."""
    return more(c, a) * more(d, b), more(d, a) * more(c, b)


def told(value, refusal=-6):
    """The answer that tells this value."""
    if value is BEYOND:
        return [refusal]
    value = Fraction(value)
    return [0, value.numerator, value.denominator]


def told_ratio(a, b, c, d):
    """The answer that tells the double ratio of these."""
    above, below = ratio_sides(a, b, c, d)
    return told(BEYOND if below == 0 else above / below)


def point_of(answer):
    """The point that an answer tells."""
    if answer == [-6]:
        return BEYOND
    if answer[0] != 0 or len(answer) != 3:
        raise AssertionError("no point: %r" % (answer,))
    return Fraction(answer[1], answer[2])
