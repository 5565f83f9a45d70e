"""The calls of one session, handed in as one list of whole numbers and answered as one."""

from racingwords.session import Session

BEGIN = 0
WORD = 1
WAIT = 2
FIRST = 3


class UnknownCall(ValueError):
    """A call has a number that the program does not know."""


def calls_apart(calls):
    """Return the calls one by one, each as its number and its list (empty if it has none)."""
    apart = []
    place = 0
    while place < len(calls):
        number = calls[place]
        place = place + 1
        numbers = []
        if number in (BEGIN, WORD, WAIT):
            end = place + 1 + calls[place]
            numbers = calls[place + 1:end]
            place = end
        elif number != FIRST:
            raise UnknownCall(f"unknown call {number}")
        apart.append((number, numbers))
    return apart


def answer(session, number, numbers):
    """Return the answer of the session to one call."""
    if number == BEGIN:
        return session.begin(numbers)
    if number == WORD:
        return session.word(numbers)
    if number == WAIT:
        return session.wait(numbers)
    return session.first()


def answers(calls):
    """Return, for each call in order, how many numbers are answered, and these."""
    session = Session()
    given = []
    for number, numbers in calls_apart(calls):
        answered = answer(session, number, numbers)
        given.append(len(answered))
        given.extend(answered)
    return given
