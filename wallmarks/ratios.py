"""The double ratio of four points, and the fourth point that it tells."""

from wallmarks.points import Point, excess

# The orders of four that six tells, by the places of a, b, c, d.
SIX_ORDERS = (
    (0, 1, 2, 3),
    (0, 1, 3, 2),
    (0, 2, 1, 3),
    (0, 2, 3, 1),
    (0, 3, 1, 2),
    (0, 3, 2, 1),
)


def double_ratio(four):
    """Told like a point: beyond all if what's below is 0. No three of the four points are alike."""
    a = four[0]
    b = four[1]
    c = four[2]
    d = four[3]
    # Each point stands once above and once below, so the factors by which the excesses are too great cancel.
    # Of a point beyond all its excesses hold such factors alone: what's told of it is left out by itself.
    return Point(excess(c, a) * excess(d, b), excess(d, a) * excess(c, b))


def in_order(four, order):
    return [four[k] for k in order]


def six_ratios(four):
    """The double ratios of four different points in the six orders."""
    return [double_ratio(in_order(four, order)) for order in SIX_ORDERS]


def fourth_point(three, ratio):
    """The point with which three different places have this double ratio, which is told like a point."""
    a = three[0]
    b = three[1]
    c = three[2]
    # (c - a) (d - b) q = p (d - a) (c - b), solved for d. A q of 0 needs no case of its own: then d is a.
    with_b = (c - a) * ratio.below
    with_a = (c - b) * ratio.above
    return Point(with_b * b - with_a * a, with_b - with_a)
