"""The calls on one object, handed in and answered as a list of whole numbers."""

from firesaved.asking import NUMBER_QUESTIONS, PLAIN_QUESTIONS, ROW_QUESTIONS
from firesaved.session import NUMBER_CALLS, PLAIN_CALLS, Session

NOT_BEGUN = -11

BEGIN = 0


def end_of_call(calls, at):
    """Where the call that begins at this index has ended."""
    if calls[at] in NUMBER_CALLS or calls[at] in NUMBER_QUESTIONS:
        return at + 2
    if calls[at] in ROW_QUESTIONS:
        return at + 2 + calls[at + 1]
    return at + 1


def answer_of(session, call, given):
    """What one call answers, made with the numbers given behind its own."""
    if call != BEGIN and len(session.joined) == 0:
        return [NOT_BEGUN]
    if call in PLAIN_CALLS:
        return PLAIN_CALLS[call](session)
    if call in NUMBER_CALLS:
        return NUMBER_CALLS[call](session, given[0])
    if call in PLAIN_QUESTIONS:
        return PLAIN_QUESTIONS[call](session)
    if call in NUMBER_QUESTIONS:
        return NUMBER_QUESTIONS[call](session, given[0])
    # Ahead of the row itself stands how many numbers it has.
    return ROW_QUESTIONS[call](session, given[1:])


def answers(calls):
    """What the calls answer, made in order on a new object: for each how many numbers, then these."""
    session = Session()
    told = []
    at = 0
    while at < len(calls):
        behind = end_of_call(calls, at)
        answer = answer_of(session, calls[at], calls[at + 1:behind])
        told.append(len(answer))
        told.extend(answer)
        at = behind
    return told
