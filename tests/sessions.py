"""Calls by their names, and the answers to them one list a call."""

from wallmarks.view import answers

START = [0]
READY = [3]
FITS = [7]
END = [8]
ORIGIN = [9]
STATE = [17]

LEAST = -2147483648
GREATEST = 2147483647


def mark(t, m):
    return [1, t, m]


def unmark(i):
    return [2, i]


def truth(t):
    return [4, t]


def seen(m):
    return [5, m]


def off(i):
    return [6, i]


def between(t, u):
    return [10, t, u]


def middle(t, u):
    return [11, t, u]


def double(a, b, c, d):
    return [12, a, b, c, d]


def six(a, b, c, d):
    return [13, a, b, c, d]


def fourth(a, b, c, p, q):
    return [14, a, b, c, p, q]


def even(a, b, c):
    return [15, a, b, c]


def keeps(a, b, c, d):
    return [16, a, b, c, d]


def flat(calls):
    return [number for call in calls for number in call]


def parted(given):
    parts = []
    place = 0
    while place < len(given):
        behind = place + 1 + given[place]
        part = given[place + 1:behind]
        if len(part) != given[place] or not part:
            raise AssertionError("a count that doesn't hold: %r" % (given,))
        parts.append(part)
        place = behind
    return parts


def ask(*calls):
    """The answers to these calls on a new object."""
    parts = parted(answers(flat(calls)))
    if len(parts) != len(calls):
        raise AssertionError("%d calls, %d answers" % (len(calls), len(parts)))
    return parts


def marked(*marks):
    """The calls that start and put in these marks."""
    return [START] + [mark(t, m) for t, m in marks]


def ask_one(call):
    """The answer to a call behind a start, without marks."""
    return ask(START, call)[1]


def ask_many(marks, calls):
    """The answers to any number of calls behind these marks, at most 200 calls a list."""
    parts = []
    for place in range(0, len(calls), 190):
        parts += ask_marked(marks, *calls[place:place + 190])
    return parts


def ask_marked(marks, *calls):
    """The answers to these calls behind a start with these marks."""
    ahead = marked(*marks)
    return ask(*ahead, *calls)[len(ahead):]
