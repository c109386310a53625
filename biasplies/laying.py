"""The calls that lay plies on the drum and lift them from it."""

from biasplies.refusals import ALREADY, CANNOT_BE, NO_SUCH, NOT_LAID, OUT_OF_RANGE, TOO_NEAR


def lay(works, told):
    number, turn = told
    if not works.has_ply(number):
        return [NO_SUCH]
    if turn >= works.girth:
        return [OUT_OF_RANGE]
    if works.plies[number].is_laid():
        return [ALREADY]
    if works.nearness_to_others(number, turn) < works.nearest:
        return [TOO_NEAR]
    works.plies[number].turn = turn
    return [works.laid_count()]


def lift(works, told):
    number = told[0]
    if not works.has_ply(number):
        return [NO_SUCH]
    lifted = works.plies[number]
    if not lifted.is_laid():
        return [NOT_LAID]
    turn = lifted.turn
    lifted.turn = None
    return [turn]


def row(works, told):
    if len(set(told)) < len(told):
        return [OUT_OF_RANGE]
    if not all([works.has_ply(number) for number in told]):
        return [NO_SUCH]
    if any([works.plies[number].is_laid() for number in told]):
        return [ALREADY]
    turns = []
    for number in told:
        turn = works.least_turn(number)
        if turn is None:
            lift_again(works, told)
            return [CANNOT_BE]
        works.plies[number].turn = turn
        turns.append(turn)
    return [len(turns)] + turns


def lift_again(works, numbers):
    """Undo a row that fails on its way: none of its plies was laid ahead of it."""
    for number in numbers:
        works.plies[number].turn = None
