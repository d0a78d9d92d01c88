"""What one object keeps from call to call: its marks."""

from wallmarks.mapping import view_of_three
from wallmarks.points import point_at

MARKS_OF_A_VIEW = 3


class Mark:
    """How far along something is in the picture (t) and in truth (m)."""

    def __init__(self, t, m):
        self.t = t
        self.m = m


class Session:
    """One object, new: not started, and without marks."""

    def __init__(self):
        self.started = False
        self.marks = []

    def start(self):
        self.started = True
        self.marks = []

    def has_mark(self, i):
        return 0 <= i < len(self.marks)

    def first_seen(self):
        return [mark.t for mark in self.marks[:MARKS_OF_A_VIEW]]

    def first_true(self):
        return [mark.m for mark in self.marks[:MARKS_OF_A_VIEW]]

    def is_ready(self):
        return makes_a_view(self.first_seen()) and makes_a_view(self.first_true())

    def view(self):
        """Takes truth to where it's seen; asked for only when it's ready."""
        return view_of_three(self.first_true(), self.first_seen())

    def true_points(self, places):
        """What's in truth at these places of the picture; asked for only when it's ready."""
        back = self.view().turned_round()
        return [back.image(point_at(place)) for place in places]


def makes_a_view(places):
    # At most three places come here: three values among them mean that none is missing and no two are alike.
    return len(set(places)) == MARKS_OF_A_VIEW
