"""The calls of one session, handed in as one list of whole numbers and answered as one."""

from racingwords.session import Session

BEGIN = 0
WORD = 1
WAIT = 2
FIRST = 3
BY = 4
AFTER = 5
REPLY = 6
RING = 7


class UnknownCall(ValueError):
    """A call has a number that the program does not know."""


def calls_apart(calls):
    """Return the calls one by one, each as its number and what is handed in with it.

    That is its list, or a list of its plain number, or an empty list if it has neither.
    """
    apart = []
    place = 0
    while place < len(calls):
        number = calls[place]
        start = place + 1
        end = start
        if number in (BEGIN, WORD, WAIT, AFTER, REPLY):
            start = place + 2
            end = start + calls[place + 1]
        elif number in (BY, RING):
            end = start + 1
        elif number != FIRST:
            raise UnknownCall(f"unknown call {number}")
        apart.append((number, calls[start:end]))
        place = end
    return apart


def answer(session, number, numbers):
    """Return the answer of the session to one call."""
    if number == BEGIN:
        return session.begin(numbers)
    if number == WORD:
        return session.word(numbers)
    if number == WAIT:
        return session.wait(numbers)
    if number == BY:
        return session.by(numbers[0])
    if number == AFTER:
        return session.after(numbers)
    if number == REPLY:
        return session.reply(numbers)
    if number == RING:
        return session.ring(numbers[0])
    return session.first()


def answers(calls):
    """Return, for each call in order, how many numbers are answered, and these."""
    session = Session()
    given = []
    for number, numbers in calls_apart(calls):
        answered = answer(session, number, numbers)
        given.append(len(answered))
        given.extend(answered)
    return given
