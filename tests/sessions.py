"""Calls by their names, and the answers to them one list a call."""

from wallmarks.view import answers

START = [0]
READY = [3]
FITS = [7]
END = [8]

LEAST = -2147483648
GREATEST = 2147483647


def mark(t, m):
    return [1, t, m]


def unmark(i):
    return [2, i]


def truth(t):
    return [4, t]


def seen(m):
    return [5, m]


def off(i):
    return [6, i]


def flat(calls):
    return [number for call in calls for number in call]


def parted(given):
    parts = []
    place = 0
    while place < len(given):
        behind = place + 1 + given[place]
        part = given[place + 1:behind]
        if len(part) != given[place] or not part:
            raise AssertionError("a count that doesn't hold: %r" % (given,))
        parts.append(part)
        place = behind
    return parts


def ask(*calls):
    """The answers to these calls on a new object."""
    parts = parted(answers(flat(calls)))
    if len(parts) != len(calls):
        raise AssertionError("%d calls, %d answers" % (len(calls), len(parts)))
    return parts


def marked(*marks):
    """The calls that start and put in these marks."""
    return [START] + [mark(t, m) for t, m in marks]


def ask_marked(marks, *calls):
    """The answers to these calls behind a start with these marks."""
    ahead = marked(*marks)
    return ask(*ahead, *calls)[len(ahead):]
