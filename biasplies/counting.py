"""The calls that tell of fabric and rolls and count what's there, and change nothing."""

from biasplies.refusals import CANNOT_BE, NO_SUCH, OUT_OF_RANGE
from biasplies.slant import is_width


def most(works, told):
    number, width = told
    if not works.has_roll(number):
        return [NO_SUCH]
    if not is_width(width):
        return [OUT_OF_RANGE]
    fabric = works.rolls[number]
    pieces = works.pieces_of(fabric.width)
    if not pieces:
        return [CANNOT_BE]
    needed = works.taken_by(pieces, width)
    return [fabric.left // needed, needed]


def piece(works, told):
    fabric_width = told[0]
    if not is_width(fabric_width):
        return [OUT_OF_RANGE]
    pieces = works.pieces_of(fabric_width)
    if not pieces:
        return [CANNOT_BE]
    return [works.cover_of(fabric_width), len(pieces), pieces[-1]]


def rest(works, told):
    number = told[0]
    if not works.has_roll(number):
        return [NO_SUCH]
    fabric = works.rolls[number]
    return [fabric.left, fabric.width, fabric.length]


def sums(works, told):
    length = sum([fabric.length for fabric in works.rolls])
    left = sum([fabric.left for fabric in works.rolls])
    # Nothing but plies is cut from rolls: what these lack is in plies.
    return [0, length, left, length - left]


def state(works, told):
    return [
        works.laid_count(), len(works.rolls), len(works.plies),
        works.girth, works.nearest, works.shortest,
    ]
