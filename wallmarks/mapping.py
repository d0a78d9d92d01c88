"""Views of a line: what takes its points to others, without losing one."""

from wallmarks.points import Point


class View:
    """Takes t to (a t + b) divided by (c t + d); a d - b c is never 0."""

    def __init__(self, a, b, c, d):
        self.a = a
        self.b = b
        self.c = c
        self.d = d

    def image(self, point):
        above = self.a * point.above + self.b * point.below
        below = self.c * point.above + self.d * point.below
        return Point(above, below)

    def turned_round(self):
        """The view that takes every image back."""
        return View(self.d, -self.b, -self.c, self.a)

    def after(self, inner):
        """The view that does the inner one first, then this one."""
        return View(
            self.a * inner.a + self.b * inner.c,
            self.a * inner.b + self.b * inner.d,
            self.c * inner.a + self.d * inner.c,
            self.c * inner.b + self.d * inner.d,
        )


def view_to_standard(places):
    """The view that takes three different places to 0, to 1 and beyond all."""
    first = places[0]
    second = places[1]
    third = places[2]
    above = second - third
    below = second - first
    return View(above, -first * above, below, -third * below)


def view_of_three(sources, targets):
    """The one view that takes three different sources to three different targets."""
    return view_to_standard(targets).turned_round().after(view_to_standard(sources))
