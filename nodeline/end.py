"""Calls on one end of a line, given as one list of numbers and answered as one."""

from nodeline.line_end import LineEnd

START = 0
SEND = 1
HEARD = 2
TICK = 3


def call_length(calls, at):
    """How many numbers the call at this place has, from its own number on."""
    if calls[at] == START:
        return 4
    if calls[at] == SEND or calls[at] == HEARD:
        return 2 + calls[at + 1]
    return 1


def whole_answer(outcome, besides):
    """outcome: the number that is answered, and the things told."""
    told = outcome[1]
    answer = [outcome[0], len(told)]
    for thing in told:
        answer.extend(thing)
    return answer + besides


def answer_of(end, call):
    if call[0] == START:
        return whole_answer(end.start(call[1], call[2], call[3]), [])
    if call[0] == SEND:
        return whole_answer(end.send(call[2:]), [])
    if call[0] == HEARD:
        return whole_answer(end.heard(call[2:]), [])
    if call[0] == TICK:
        return whole_answer(end.tick(), [])
    return whole_answer((0, []), end.state())


def answers(calls):
    end = LineEnd()
    given = []
    at = 0
    while at < len(calls):
        length = call_length(calls, at)
        answer = answer_of(end, calls[at:at + length])
        given.append(len(answer))
        given.extend(answer)
        at += length
    return given
