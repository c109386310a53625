"""What the tests share: a line written by the calls' names, its answers call by call."""

from biasplies.drum import answers

BIG = 4294967295
NAMES = (
    "begin", "roll", "ply", "lay", "lift", "row", "least", "best", "fits", "near",
    "all", "splices", "where", "most", "piece", "look", "rest", "at", "sums", "state",
)
TOLD = dict(zip(NAMES, (6, 2, 2, 2, 1, None, 1, 1, 2, 2, 0, 1, 1, 2, 1, 1, 1, 2, 0, 0)))


def encoded(calls):
    """("lay", 0, 5) becomes 3, 0, 5; ("row", 1, 2) becomes 5, 2, 1, 2."""
    numbers = []
    for name, *told in calls:
        numbers.append(NAMES.index(name))
        if name == "row":
            numbers.append(len(told))
        numbers.extend(told)
    return numbers


def split(given):
    """The flat list that's given back, as one list for each call."""
    each = []
    at = 0
    while at < len(given):
        end = at + 1 + given[at]
        if given[at] < 1 or end > len(given):
            raise AssertionError(f"a count is off at {at}: {given}")
        each.append(given[at + 1:end])
        at = end
    return each


def told(*calls):
    each = split(answers(encoded(calls)))
    if len(each) != len(calls):
        raise AssertionError(f"{len(calls)} calls, {len(each)} answers")
    return each


def last(*calls):
    return told(*calls)[-1]


def begun(girth=1000, near=10, short=50, slant=(3, 4, 5)):
    return ("begin", *slant, girth, near, short)


def ones(count, girth=1000, near=10):
    """Plies of one piece each."""
    return [begun(girth, near), ("roll", 2000, 1000000), *[("ply", 0, 3)] * count]


def splices_of(width, girth, short=50, slant=(3, 4, 5)):
    """Where the splices of a ply are, found out by a ply of one piece that's turned past it.

    An empty list, if there's no such ply.
    """
    base = [begun(girth, 0, short, slant), ("roll", width, 1000000), ("roll", 2000, 1000000)]
    if last(*base, ("ply", 0, 1)) == [-33]:
        return []
    base = base + [("ply", 0, 1), ("ply", 1, 1), ("lay", 0, 0)]
    found = []
    for start in range(0, girth, 350):
        turns = range(start, min(start + 350, girth))
        each = told(*base, *[("fits", 1, turn) for turn in turns])[len(base):]
        found.extend(turn for turn, (fit, reached) in zip(turns, each) if reached == 0)
    return found
