"""Places round the drum, and how far they are from each other."""


def apart(place, other, girth):
    """How far two places are apart, the shorter way round."""
    way = (place - other) % girth
    return min(way, girth - way)


def turned(starts, turn, girth):
    """Where splices come to lie with a turn."""
    return [(start + turn) % girth for start in starts]


def meeting_turns(starts, places, girth):
    """The turns, rising, with which one of the splices falls just on one of the places.

    Splices with a turn are as far from the places as the turn is from the next of these,
    so whoever seeks a turn need not go through every splice for each of them.
    """
    meets = {}
    for place in places:
        for start in starts:
            meets[(place - start) % girth] = True
    return sorted(meets)


def nearness(place, others, girth):
    """How near a place is to the next of others, or a turn to the next of turns (girth: none)."""
    return min([apart(place, other, girth) for other in others], default=girth)


def nearness_of_plies(marked, girth):
    """How near any places of two plies are, each marked with its ply (girth: none).

    Between the nearest two lies no third place: it'd be of another ply than one of them,
    and nearer to that one. So it's enough to hold each place against the next one.
    """
    ordered = sorted(marked)
    behind = ordered[1:] + ordered[:1]
    return min(
        [apart(one[0], two[0], girth) for one, two in zip(ordered, behind) if one[1] != two[1]],
        default=girth,
    )


def nearness_by_turn(meets, girth):
    """For each turn, from 0 on, how near splices come with it."""
    reached = [girth] * girth
    # The last meeting turn is followed by the first one, once more round.
    behind = meets[1:] + [meet + girth for meet in meets[:1]]
    for start, end in zip(meets, behind):
        for turn in range(start, end):
            reached[turn % girth] = min(turn - start, end - turn)
    return reached
