"""The calls that tell of plies and of what lies on the drum, and change nothing."""

from biasplies.refusals import NO_SUCH, NOT_LAID, OUT_OF_RANGE
from biasplies.turns import nearness, nearness_of_plies


def all_laid(works, told):
    """The call all, whose own name is Python's; it's told nothing."""
    laid = works.laid_numbers()
    marked = []
    for number in laid:
        for place in works.plies[number].places(works.girth):
            marked.append((place, number))
    return [nearness_of_plies(marked, works.girth)] + laid


def splices(works, told):
    number = told[0]
    if not works.has_ply(number):
        return [NO_SUCH]
    starts = works.plies[number].starts
    return [len(starts)] + starts


def where(works, told):
    number = told[0]
    if not works.has_ply(number):
        return [NO_SUCH]
    ply = works.plies[number]
    if not ply.is_laid():
        return [NOT_LAID]
    return [ply.turn] + ply.places(works.girth)


def look(works, told):
    number = told[0]
    if not works.has_ply(number):
        return [NO_SUCH]
    ply = works.plies[number]
    turn_and_one = ply.turn + 1 if ply.is_laid() else 0
    return [ply.source, ply.width, len(ply.starts), turn_and_one]


def at_place(works, told):
    """The call at: the plies with a splice no farther than so much from a place."""
    place, farthest = told
    if place >= works.girth:
        return [OUT_OF_RANGE]
    found = []
    for number in works.laid_numbers():
        places = works.plies[number].places(works.girth)
        if nearness(place, places, works.girth) <= farthest:
            found.append(number)
    return [len(found)] + found
