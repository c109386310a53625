"""A line of calls on one object: what is told, and what is answered."""

from biasplies.asking import best, fits, least, near
from biasplies.cutting import begin, ply, roll
from biasplies.laying import lay, lift, row
from biasplies.refusals import NOT_BEGUN
from biasplies.works import Works

BEGIN = 0
ROW = 5

# How many numbers each call is told, by the call's number; a row tells its own count.
TOLD = (6, 2, 2, 2, 1, None, 1, 1, 2, 2, 0, 1, 1, 2, 1, 1, 1, 2, 0, 0)


def answers(calls):
    works = Works()
    given = []
    at = 0
    while at < len(calls):
        start, end = told_span(calls, at)
        answer = answer_of(works, calls[at], calls[start:end])
        given.append(len(answer))
        given.extend(answer)
        at = end
    return given


def told_span(calls, at):
    """Where that begins and ends which the call at this place is told."""
    if calls[at] == ROW:
        return at + 2, at + 2 + calls[at + 1]
    return at + 1, at + 1 + TOLD[calls[at]]


def answer_of(works, call, told):
    if call != BEGIN and not works.begun:
        return [NOT_BEGUN]
    built = {
        0: begin, 1: roll, 2: ply, 3: lay, 4: lift,
        5: row, 6: least, 7: best, 8: fits, 9: near,
    }
    return built[call](works, told)
