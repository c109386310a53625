"""A line of calls on one object: what is told, and what is answered."""

from biasplies.asking import best, fits, least, near
from biasplies.counting import most, piece, rest, state, sums
from biasplies.cutting import begin, ply, roll
from biasplies.laying import lay, lift, row
from biasplies.refusals import NOT_BEGUN
from biasplies.telling import all_laid, at_place, look, splices, where
from biasplies.works import Works

BEGIN = 0
ROW = 5

# How many numbers each call is told, by the call's number; a row tells its own count.
TOLD = (6, 2, 2, 2, 1, None, 1, 1, 2, 2, 0, 1, 1, 2, 1, 1, 1, 2, 0, 0)


def answers(calls):
    works = Works()
    given = []
    at = 0
    while at < len(calls):
        start, end = told_span(calls, at)
        answer = answer_of(works, calls[at], calls[start:end])
        given.append(len(answer))
        given.extend(answer)
        at = end
    return given


def told_span(calls, at):
    """Where that begins and ends which the call at this place is told."""
    if calls[at] == ROW:
        return at + 2, at + 2 + calls[at + 1]
    return at + 1, at + 1 + TOLD[calls[at]]


def answer_of(works, call, told):
    if call != BEGIN and not works.begun:
        return [NOT_BEGUN]
    by_number = (
        begin, roll, ply, lay, lift, row, least, best, fits, near,
        all_laid, splices, where, most, piece, look, rest, at_place, sums, state,
    )
    return by_number[call](works, told)
