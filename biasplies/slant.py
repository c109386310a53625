"""What a cut on the slant makes of a width: how much a piece covers, how much it takes."""


def is_width(width):
    """Whether a ply, or the fabric of a piece, may be so wide."""
    return 1 <= width <= 2000


def covered(fabric_width, a, c):
    """How much of the drum a piece of fabric so wide covers."""
    return fabric_width * c // a


def taken(ply_width, a, c):
    """How much of a roll's length one piece of a ply so wide takes."""
    return (ply_width * c + a - 1) // a


def pieces_round(cover, girth, shortest):
    """How much of the drum each piece of a ply covers; an empty list if there's no such ply."""
    whole = (girth - 1) // cover
    pieces = [cover] * whole
    pieces.append(girth - whole * cover)
    lacking = shortest - pieces[-1]
    if whole == 0 or lacking <= 0:
        return pieces
    pieces[-1] += lacking
    pieces[-2] -= lacking
    if pieces[-2] < shortest:
        return []
    return pieces


def starts_of(pieces):
    """Where the pieces begin, laid one behind another from 0 on."""
    starts = []
    start = 0
    for piece in pieces:
        starts.append(start)
        start += piece
    return starts
