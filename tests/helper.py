"""What the tests share: lines written by the calls' names, their answers, lines of all sorts."""

from biasplies.drum import answers

BIG = 4294967295
NAMES = (
    "begin", "roll", "ply", "lay", "lift", "row", "least", "best", "fits", "near",
    "all", "splices", "where", "most", "piece", "look", "rest", "at", "sums", "state",
)
TOLD = dict(zip(NAMES, (6, 2, 2, 2, 1, None, 1, 1, 2, 2, 0, 1, 1, 2, 1, 1, 1, 2, 0, 0)))
# Those that only ask.
ASKING = NAMES[6:]
SLANTS = ((3, 4, 5), (4, 3, 5), (5, 12, 13), (12, 5, 13), (20, 21, 29), (924, 43, 925))
GIRTHS = (100, 199, 200, 250, 300, 333, 501, 600)


def encoded(calls):
    """("lay", 0, 5) becomes 3, 0, 5; ("row", 1, 2) becomes 5, 2, 1, 2."""
    numbers = []
    for name, *told in calls:
        numbers.append(NAMES.index(name))
        if name == "row":
            numbers.append(len(told))
        numbers.extend(told)
    return numbers


def split(given):
    """The flat list that's given back, as one list for each call."""
    each = []
    at = 0
    while at < len(given):
        end = at + 1 + given[at]
        if given[at] < 1 or end > len(given):
            raise AssertionError(f"a count is off at {at}: {given}")
        each.append(given[at + 1:end])
        at = end
    return each


def told(*calls):
    each = split(answers(encoded(calls)))
    if len(each) != len(calls):
        raise AssertionError(f"{len(calls)} calls, {len(each)} answers")
    return each


def last(*calls):
    return told(*calls)[-1]


def begun(girth=1000, near=10, short=50, slant=(3, 4, 5)):
    return ("begin", *slant, girth, near, short)


def ones(count, girth=1000, near=10):
    """Plies of one piece each."""
    return [begun(girth, near), ("roll", 2000, 1000000), *[("ply", 0, 3)] * count]


def of_three_and_two(girth=1000, near=10):
    """Ply 0 with splices at 0, 400 and 800, ply 1 with splices at 0 and 500."""
    return [begun(girth, near), ("roll", 240, 1000), ("roll", 300, 1000), ("ply", 0, 3), ("ply", 1, 3)]


def splices_of(width, girth, short=50, slant=(3, 4, 5)):
    """Where the splices of a ply are, found out by a ply of one piece that's turned past it.

    An empty list, if there's no such ply.
    """
    base = [begun(girth, 0, short, slant), ("roll", width, 1000000), ("roll", 2000, 1000000)]
    if last(*base, ("ply", 0, 1)) == [-33]:
        return []
    base = base + [("ply", 0, 1), ("ply", 1, 1), ("lay", 0, 0)]
    found = []
    for start in range(0, girth, 350):
        turns = range(start, min(start + 350, girth))
        each = told(*base, *[("fits", 1, turn) for turn in turns])[len(base):]
        found.extend(turn for turn, (fit, reached) in zip(turns, each) if reached == 0)
    return found


class Numbers:
    """The same numbers each time, that follow no plain order."""

    def __init__(self, seed):
        self.state = seed

    def below(self, bound):
        self.state = (self.state * 6364136223846793005 + 1442695040888963407) % 2 ** 64
        return (self.state >> 33) % bound

    def within(self, low, high):
        return low + self.below(high - low + 1)

    def one_of(self, choices):
        return choices[self.below(len(choices))]


def some_begin(numbers, girths=GIRTHS):
    near = numbers.one_of((0, 1, 2, 3, 5, 8, 10, 20, 50, 100, 110))
    short = numbers.one_of((1, 1, 20, 50, 70, 100, 200))
    call = ["begin", *numbers.one_of(SLANTS), numbers.one_of(girths), near, short]
    if numbers.below(6) == 0:
        call[numbers.within(1, 6)] = numbers.one_of((0, 99, 501, 1501, BIG))
    return tuple(call)


def some_call(numbers, girth):
    """Any call but begin, of numbers that are near to what may be."""
    def ply():
        return numbers.below(numbers.one_of((3, 8, 14)))

    def place():
        return numbers.one_of((0, girth - 1, girth, girth // 2)) if numbers.below(5) == 0 else numbers.below(girth)

    def width():
        return numbers.one_of((0, 1, 2, 3, 20, 60, 100, 149, 150, 200, 400, 2000, 2001))

    name = numbers.one_of((*NAMES[1:], "ply", "lay", "lay", "lay"))
    if name == "roll":
        return (name, numbers.one_of((149, 150, 151, 160, 200, 250, 400)), numbers.within(0, 9000))
    if name == "ply":
        return (name, numbers.below(3), numbers.one_of((0, 1, 2, 3, 10, 50, 100, 400, 2001)))
    if name == "row":
        return (name, *[ply() for count in range(numbers.below(5))])
    if name in ("lay", "fits"):
        return (name, ply(), place())
    if name == "at":
        return (name, place(), numbers.one_of((0, 1, 5, 20, girth // 2, BIG)))
    if name == "most":
        return (name, numbers.below(4), width())
    if name == "piece":
        return (name, width())
    return (name, *[ply() for count in range(TOLD[name])])


def some_line(seed, count, girths=GIRTHS):
    """A line of so many calls; the same one each time."""
    numbers = Numbers(seed)
    girth = girths[0]
    calls = [some_call(numbers, girth) for ahead in range(numbers.below(4))]
    begins = True
    while len(calls) < count:
        if begins:
            calls.append(some_begin(numbers, girths))
            girth = calls[-1][4] or 1
            calls.extend([("roll", 150, 9000), ("roll", 170, 2000), ("ply", 0, 50), ("ply", 1, 30)])
        calls.append(some_call(numbers, girth))
        begins = numbers.below(100) == 0
    return calls[:count]
