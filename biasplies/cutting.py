"""The calls that set up the drum, bring rolls and cut plies from them."""

from biasplies.refusals import CANNOT_BE, NO_SUCH, OUT_OF_RANGE, TOO_LITTLE, TOO_MANY
from biasplies.slant import is_width, starts_of
from biasplies.works import Ply, Roll

MOST_ROLLS = 10
MOST_PLIES = 12


def is_triangle(a, b, c):
    return a > 0 and b > 0 and c <= 1000 and a * a + b * b == c * c


def begin(works, told):
    a, b, c, girth, nearest, shortest = told
    if not is_triangle(a, b, c) or not 100 <= girth <= 1500:
        return [OUT_OF_RANGE]
    if nearest > 500 or not 1 <= shortest <= 200:
        return [OUT_OF_RANGE]
    works.begun = True
    works.a = a
    works.c = c
    works.girth = girth
    works.nearest = nearest
    works.shortest = shortest
    works.rolls = []
    works.plies = []
    return [0]


def roll(works, told):
    width, length = told
    if not 150 <= width <= 2000 or not 1 <= length <= 1000000:
        return [OUT_OF_RANGE]
    if len(works.rolls) >= MOST_ROLLS:
        return [TOO_MANY]
    works.rolls.append(Roll(width, length))
    return [len(works.rolls) - 1]


def ply(works, told):
    source, width = told
    if not works.has_roll(source):
        return [NO_SUCH]
    if not is_width(width):
        return [OUT_OF_RANGE]
    if len(works.plies) >= MOST_PLIES:
        return [TOO_MANY]
    fabric = works.rolls[source]
    pieces = works.pieces_of(fabric.width)
    if not pieces:
        return [CANNOT_BE]
    needed = works.taken_by(pieces, width)
    if needed > fabric.left:
        return [TOO_LITTLE]
    fabric.left -= needed
    works.plies.append(Ply(source, width, starts_of(pieces)))
    return [len(works.plies) - 1, len(pieces)]
