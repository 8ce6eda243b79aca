"""The calls on one object, written one behind another in one list."""

from heldstill.hold import Hold

BEGIN = 0
FRAME = 1
BEGIN_LENGTH = 6
FRAME_HEAD = 5
WHERE_LENGTH = 1


def call_length(calls, start):
    """How many numbers the call that begins at `start` has."""
    if calls[start] == BEGIN:
        return BEGIN_LENGTH
    if calls[start] == FRAME:
        return FRAME_HEAD + calls[start + FRAME_HEAD - 1]
    return WHERE_LENGTH


def call_answer(hold, call):
    """What the object answers to one call, as a list of numbers."""
    if call[0] == BEGIN:
        return hold.begin(call[1], call[2], call[3], call[4], call[5])
    if call[0] == FRAME:
        return hold.frame(call[1], call[2], call[3], call[FRAME_HEAD:])
    return hold.where()


def answers(calls):
    """Of each call, in order: how many numbers are answered, then these."""
    hold = Hold()
    given = []
    start = 0
    while start < len(calls):
        behind = start + call_length(calls, start)
        answer = call_answer(hold, calls[start:behind])
        given.append(len(answer))
        given.extend(answer)
        start = behind
    return given
