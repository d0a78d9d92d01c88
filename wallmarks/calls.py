"""What each call answers: a list with the number first, then what else is told."""

from wallmarks.points import fraction, point_at, point_beyond_all
from wallmarks.session import Mark

NO_SUCH_MARK = -2
BEYOND_ALL = -6
NOT_STARTED = -11
NOT_READY = -16
OUT_OF_RANGE = -22
TOO_MANY_MARKS = -28
END_BEYOND_ALL = -33

FARTHEST = 1000
MOST_MARKS = 8

START = 0


def in_range(place):
    return 0 <= place <= FARTHEST


def told(point, refusal):
    """A point as 0 and its fraction, or the refusal if it's beyond all."""
    if point.is_beyond_all():
        return [refusal]
    return [0] + fraction(point)


def answer_start(session, numbers):
    session.start()
    return [0]


def answer_mark(session, numbers):
    t = numbers[0]
    m = numbers[1]
    if not in_range(t) or not in_range(m):
        return [OUT_OF_RANGE]
    if len(session.marks) == MOST_MARKS:
        return [TOO_MANY_MARKS]
    session.marks.append(Mark(t, m))
    return [len(session.marks) - 1]


def answer_unmark(session, numbers):
    i = numbers[0]
    if not session.has_mark(i):
        return [NO_SUCH_MARK]
    session.marks.pop(i)
    return [len(session.marks)]


def answer_ready(session, numbers):
    return [1 if session.is_ready() else 0]


def answer_truth(session, numbers):
    t = numbers[0]
    if not in_range(t):
        return [OUT_OF_RANGE]
    if not session.is_ready():
        return [NOT_READY]
    return told(session.view().turned_round().image(point_at(t)), BEYOND_ALL)


def answer_seen(session, numbers):
    m = numbers[0]
    if not in_range(m):
        return [OUT_OF_RANGE]
    if not session.is_ready():
        return [NOT_READY]
    return told(session.view().image(point_at(m)), BEYOND_ALL)


def answer_off(session, numbers):
    i = numbers[0]
    if not session.has_mark(i):
        return [NO_SUCH_MARK]
    if not session.is_ready():
        return [NOT_READY]
    mark = session.marks[i]
    return told(session.view().image(point_at(mark.m)).moved_back(mark.t), BEYOND_ALL)


def answer_fits(session, numbers):
    if not session.is_ready():
        return [NOT_READY]
    view = session.view()
    for mark in session.marks:
        if not view.image(point_at(mark.m)).is_at(mark.t):
            return [0]
    return [1]


def answer_end(session, numbers):
    if not session.is_ready():
        return [NOT_READY]
    return told(session.view().image(point_beyond_all()), END_BEYOND_ALL)


CALLS = {
    0: answer_start,
    1: answer_mark,
    2: answer_unmark,
    3: answer_ready,
    4: answer_truth,
    5: answer_seen,
    6: answer_off,
    7: answer_fits,
    8: answer_end,
}


def answer(session, call, numbers):
    if call != START and not session.started:
        return [NOT_STARTED]
    if call not in CALLS:
        raise NotImplementedError(f"call {call} is not built yet")
    return CALLS[call](session, numbers)
