"""The calls that tell how plies may be laid, and change nothing."""

from biasplies.refusals import ALREADY, CANNOT_BE, NO_SUCH, NOT_LAID, OUT_OF_RANGE
from biasplies.turns import meeting_turns, nearness


def least(works, told):
    number = told[0]
    if not works.has_ply(number):
        return [NO_SUCH]
    if works.plies[number].is_laid():
        return [ALREADY]
    turn = works.least_turn(number)
    if turn is None:
        return [CANNOT_BE]
    return [turn]


def best(works, told):
    number = told[0]
    if not works.has_ply(number):
        return [NO_SUCH]
    itself = 1 if works.plies[number].is_laid() else 0
    if works.laid_count() == itself:
        return [NOT_LAID]
    reached = works.nearness_by_turns(number)
    farthest = max(reached)
    return [reached.index(farthest), farthest]


def fits(works, told):
    number, turn = told
    if not works.has_ply(number):
        return [NO_SUCH]
    if turn >= works.girth:
        return [OUT_OF_RANGE]
    reached = works.nearness_to_others(number, turn)
    return [1 if reached >= works.nearest else 0, reached]


def near(works, told):
    first, second = told
    if not works.has_ply(first) or not works.has_ply(second):
        return [NO_SUCH]
    if first == second:
        return [OUT_OF_RANGE]
    one = works.plies[first]
    other = works.plies[second]
    if not one.is_laid() or not other.is_laid():
        return [NOT_LAID]
    meets = meeting_turns(one.starts, other.places(works.girth), works.girth)
    return [nearness(one.turn, meets, works.girth)]
