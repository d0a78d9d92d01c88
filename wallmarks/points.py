"""Points of a line, and the fractions by which they are told."""


class Point:
    """How far along: above divided by below; beyond all if below is 0. Never 0 in both."""

    def __init__(self, above, below):
        self.above = above
        self.below = below

    def is_beyond_all(self):
        return self.below == 0

    def is_at(self, place):
        # Beyond all needs no case of its own: there above isn't 0, and place * below is.
        return self.above == place * self.below

    def moved_back(self, distance):
        # Beyond all stays beyond all, since below stays as it is.
        return Point(self.above - distance * self.below, self.below)


def point_at(place):
    return Point(place, 1)


def point_beyond_all():
    return Point(1, 0)


def excess(more, less):
    """How much one point is more than another, times what stands below in both of them."""
    return more.above * less.below - less.above * more.below


def difference(more, less):
    """By how much one point is more than another; neither is beyond all."""
    return Point(excess(more, less), more.below * less.below)


def middle_point(first, second):
    """The middle of two points that aren't beyond all."""
    above = first.above * second.below + second.above * first.below
    return Point(above, 2 * first.below * second.below)


def common_divisor(first, second):
    """The greatest number that divides both; 1 or more if they aren't both 0."""
    larger = abs(first)
    smaller = abs(second)
    while smaller != 0:
        rest = larger % smaller
        larger = smaller
        smaller = rest
    return larger


def fraction(point):
    """The two numbers that tell a point that isn't beyond all."""
    divisor = common_divisor(point.above, point.below)
    if point.below < 0:
        # The number below is told as 1 or more: the sign goes above.
        divisor = -divisor
    return [point.above // divisor, point.below // divisor]
