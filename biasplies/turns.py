"""Places round the drum, and how far they are from each other."""


def apart(place, other, girth):
    """How far two places are apart, the shorter way round."""
    way = (place - other) % girth
    return min(way, girth - way)


def turned(starts, turn, girth):
    """Where splices come to lie with a turn."""
    return [(start + turn) % girth for start in starts]


def meeting_turns(starts, places, girth):
    """The turns, rising, with which one of the splices falls just on one of the places.

    Splices with a turn are as far from the places as the turn is from the next of these,
    so whoever seeks a turn need not go through every splice for each of them.
    """
    meets = {}
    for place in places:
        for start in starts:
            meets[(place - start) % girth] = True
    return sorted(meets)


def nearness(turn, meets, girth):
    """How near splices come with this turn (girth: there's nothing to meet)."""
    return min([apart(turn, meet, girth) for meet in meets], default=girth)


def nearness_by_turn(meets, girth):
    """For each turn, from 0 on, how near splices come with it."""
    reached = [girth] * girth
    # The last meeting turn is followed by the first one, once more round.
    behind = meets[1:] + [meet + girth for meet in meets[:1]]
    for start, end in zip(meets, behind):
        for turn in range(start, end):
            reached[turn % girth] = min(turn - start, end - turn)
    return reached
