"""The calls on one object, handed in as one list and answered as one list."""

from wallmarks.calls import answer
from wallmarks.session import Session

# How many numbers each call of the interface has behind its own.
NUMBERS_OF_CALL = (0, 2, 1, 0, 1, 1, 1, 0, 0, 0, 2, 2, 4, 4, 5, 3, 4, 0)


def answers(calls):
    session = Session()
    given = []
    place = 0
    while place < len(calls):
        call = calls[place]
        behind = place + 1 + NUMBERS_OF_CALL[call]
        answered = answer(session, call, calls[place + 1:behind])
        given.append(len(answered))
        given.extend(answered)
        place = behind
    return given
