"""What each call answers: a list with the number first, then what else is told."""

from wallmarks.points import Point, difference, fraction, middle_point, point_at, point_beyond_all
from wallmarks.ratios import double_ratio, fourth_point, six_ratios
from wallmarks.session import Mark

NO_SUCH_MARK = -2
BEYOND_ALL = -6
NOT_STARTED = -11
NOT_READY = -16
ALIKE = -17
OUT_OF_RANGE = -22
TOO_MANY_MARKS = -28
LEADS_BEYOND_ALL = -33

FARTHEST = 1000
MOST_MARKS = 8

START = 0

EVENLY_PARTED = -1


def in_range(places):
    return all([0 <= place <= FARTHEST for place in places])


def most_alike(places):
    """How many of the places are the same, at most."""
    return max([places.count(place) for place in places])


def have_double_ratio(places):
    return in_range(places) and most_alike(places) < 3


def told(point, refusal):
    """A point as 0 and its fraction, or the refusal if it's beyond all."""
    if point.is_beyond_all():
        return [refusal]
    return [0] + fraction(point)


def answer_start(session, numbers):
    session.start()
    return [0]


def answer_mark(session, numbers):
    if not in_range(numbers):
        return [OUT_OF_RANGE]
    if len(session.marks) == MOST_MARKS:
        return [TOO_MANY_MARKS]
    session.marks.append(Mark(numbers[0], numbers[1]))
    return [len(session.marks) - 1]


def answer_unmark(session, numbers):
    i = numbers[0]
    if not session.has_mark(i):
        return [NO_SUCH_MARK]
    session.marks.pop(i)
    return [len(session.marks)]


def answer_ready(session, numbers):
    return [1 if session.is_ready() else 0]


def answer_truth(session, numbers):
    if not in_range(numbers):
        return [OUT_OF_RANGE]
    if not session.is_ready():
        return [NOT_READY]
    return told(session.true_points(numbers)[0], BEYOND_ALL)


def answer_seen(session, numbers):
    if not in_range(numbers):
        return [OUT_OF_RANGE]
    if not session.is_ready():
        return [NOT_READY]
    return told(session.view().image(point_at(numbers[0])), BEYOND_ALL)


def answer_off(session, numbers):
    i = numbers[0]
    if not session.has_mark(i):
        return [NO_SUCH_MARK]
    if not session.is_ready():
        return [NOT_READY]
    mark = session.marks[i]
    return told(session.view().image(point_at(mark.m)).moved_back(mark.t), BEYOND_ALL)


def answer_fits(session, numbers):
    if not session.is_ready():
        return [NOT_READY]
    view = session.view()
    for mark in session.marks:
        if not view.image(point_at(mark.m)).is_at(mark.t):
            return [0]
    return [1]


def answer_end(session, numbers):
    if not session.is_ready():
        return [NOT_READY]
    return told(session.view().image(point_beyond_all()), LEADS_BEYOND_ALL)


def answer_origin(session, numbers):
    if not session.is_ready():
        return [NOT_READY]
    return told(session.view().turned_round().image(point_beyond_all()), LEADS_BEYOND_ALL)


def refusal_of_couple(session, places):
    """What refuses two places of the picture that are measured in truth; None if nothing does."""
    if not in_range(places):
        return OUT_OF_RANGE
    if not session.is_ready():
        return NOT_READY
    if any([point.is_beyond_all() for point in session.true_points(places)]):
        return BEYOND_ALL
    return None


def answer_between(session, numbers):
    refusal = refusal_of_couple(session, numbers)
    if refusal is not None:
        return [refusal]
    couple = session.true_points(numbers)
    return [0] + fraction(difference(couple[1], couple[0]))


def answer_middle(session, numbers):
    refusal = refusal_of_couple(session, numbers)
    if refusal is not None:
        return [refusal]
    couple = session.true_points(numbers)
    return told(session.view().image(middle_point(couple[0], couple[1])), LEADS_BEYOND_ALL)


def answer_double(session, numbers):
    if not have_double_ratio(numbers):
        return [OUT_OF_RANGE]
    return told(double_ratio([point_at(place) for place in numbers]), BEYOND_ALL)


def answer_six(session, numbers):
    if not in_range(numbers):
        return [OUT_OF_RANGE]
    if most_alike(numbers) > 1:
        return [ALIKE]
    answered = [0]
    for ratio in six_ratios([point_at(place) for place in numbers]):
        answered.extend(fraction(ratio))
    return answered


def answer_fourth(session, numbers):
    three = numbers[:3]
    p = numbers[3]
    q = numbers[4]
    if not in_range(numbers) or (p == 0 and q == 0):
        return [OUT_OF_RANGE]
    if most_alike(three) > 1:
        return [ALIKE]
    return told(fourth_point(three, Point(p, q)), BEYOND_ALL)


def answer_even(session, numbers):
    if not in_range(numbers):
        return [OUT_OF_RANGE]
    if most_alike(numbers) > 1:
        return [ALIKE]
    return told(fourth_point(numbers, point_at(EVENLY_PARTED)), BEYOND_ALL)


def answer_keeps(session, numbers):
    if not have_double_ratio(numbers):
        return [OUT_OF_RANGE]
    if not session.is_ready():
        return [NOT_READY]
    return told(double_ratio(session.true_points(numbers)), BEYOND_ALL)


def answer_state(session, numbers):
    answered = [len(session.marks)]
    for mark in session.marks:
        answered.extend([mark.t, mark.m])
    return answered


CALLS = {
    0: answer_start,
    1: answer_mark,
    2: answer_unmark,
    3: answer_ready,
    4: answer_truth,
    5: answer_seen,
    6: answer_off,
    7: answer_fits,
    8: answer_end,
    9: answer_origin,
    10: answer_between,
    11: answer_middle,
    12: answer_double,
    13: answer_six,
    14: answer_fourth,
    15: answer_even,
    16: answer_keeps,
    17: answer_state,
}


def answer(session, call, numbers):
    if call != START and not session.started:
        return [NOT_STARTED]
    return CALLS[call](session, numbers)
