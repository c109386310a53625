"""Lines of all sorts, held against the document's words done the slow way."""

import unittest

from helper import BIG, told

SLANTS = ((3, 4, 5), (4, 3, 5), (5, 12, 13), (12, 5, 13), (20, 21, 29), (924, 43, 925))


class Numbers:
    """The same numbers each time, that follow no plain order."""

    def __init__(self, seed):
        self.state = seed

    def below(self, bound):
        self.state = (self.state * 6364136223846793005 + 1442695040888963407) % 2 ** 64
        return (self.state >> 33) % bound

    def within(self, low, high):
        return low + self.below(high - low + 1)

    def one_of(self, choices):
        return choices[self.below(len(choices))]


class Model:
    """The object by the document's words; a refusal is raised as a ValueError."""

    def __init__(self):
        self.round = None

    def answer(self, name, told):
        if name != "begin" and self.round is None:
            return [-11]
        try:
            return getattr(self, name)(*told)
        except ValueError as refusal:
            return [refusal.args[0]]

    def refuse(self, number, when):
        if when:
            raise ValueError(number)

    def ply_told(self, number):
        self.refuse(-2, number >= len(self.plies))
        return self.plies[number]

    def begin(self, a, b, c, girth, near, short):
        self.refuse(-22, a == 0 or b == 0 or c > 1000 or a ** 2 + b ** 2 != c ** 2)
        self.refuse(-22, girth < 100 or girth > 1500 or near > 500 or short < 1 or short > 200)
        self.a, self.c, self.round, self.may, self.short = a, c, girth, near, short
        self.rolls = []
        self.plies = []
        return [0]

    def roll(self, wide, long):
        self.refuse(-22, wide < 150 or wide > 2000 or long < 1 or long > 1000000)
        self.refuse(-28, len(self.rolls) == 10)
        self.rolls.append([wide, long])
        return [len(self.rolls) - 1]

    def pieces(self, fabric):
        covers = 0
        while (covers + 1) * self.a <= fabric * self.c:
            covers += 1
        pieces = []
        while sum(pieces) < self.round:
            pieces.append(min(covers, self.round - sum(pieces)))
        while len(pieces) > 1 and pieces[-1] < self.short:
            pieces[-1] += 1
            pieces[-2] -= 1
        if len(pieces) > 1 and pieces[-2] < self.short:
            return None
        return pieces

    def ply(self, roll, wide):
        self.refuse(-2, roll >= len(self.rolls))
        self.refuse(-22, wide < 1 or wide > 2000)
        self.refuse(-28, len(self.plies) == 12)
        pieces = self.pieces(self.rolls[roll][0])
        self.refuse(-33, pieces is None)
        each = wide * self.c // self.a + (1 if wide * self.c % self.a else 0)
        takes = sum(each for piece in pieces)
        self.refuse(-12, takes > self.rolls[roll][1])
        self.rolls[roll][1] -= takes
        self.plies.append({"splices": [sum(pieces[:i]) for i in range(len(pieces))], "turn": None})
        return [len(self.plies) - 1, len(pieces)]

    def how_near(self, ply, turn, others):
        least = self.round
        for other in others:
            for i in ply["splices"]:
                for j in other["splices"]:
                    one, two = (i + turn) % self.round, (j + other["turn"]) % self.round
                    way = max(one, two) - min(one, two)
                    least = min(least, way, self.round - way)
        return least

    def others(self, ply):
        return [other for other in self.plies if other is not ply and other["turn"] is not None]

    def may_be(self, ply, turn):
        return self.how_near(ply, turn, self.others(ply)) >= self.may

    def least_of(self, ply):
        for turn in range(self.round):
            if self.may_be(ply, turn):
                return turn
        return None

    def lay(self, p, turn):
        ply = self.ply_told(p)
        self.refuse(-22, turn >= self.round)
        self.refuse(-17, ply["turn"] is not None)
        self.refuse(-40, not self.may_be(ply, turn))
        ply["turn"] = turn
        return [1 + len(self.others(ply))]

    def lift(self, p):
        ply = self.ply_told(p)
        self.refuse(-6, ply["turn"] is None)
        turn, ply["turn"] = ply["turn"], None
        return [turn]

    def row(self, *numbers):
        self.refuse(-22, any(numbers.count(number) > 1 for number in numbers))
        plies = [self.ply_told(number) for number in numbers]
        self.refuse(-17, any(ply["turn"] is not None for ply in plies))
        for ply in plies:
            ply["turn"] = self.least_of(ply)
            if ply["turn"] is None:
                for laid in plies:
                    laid["turn"] = None
                raise ValueError(-33)
        return [len(plies)] + [ply["turn"] for ply in plies]

    def least(self, p):
        ply = self.ply_told(p)
        self.refuse(-17, ply["turn"] is not None)
        turn = self.least_of(ply)
        self.refuse(-33, turn is None)
        return [turn]

    def best(self, p):
        ply = self.ply_told(p)
        self.refuse(-6, not self.others(ply))
        reached = [self.how_near(ply, turn, self.others(ply)) for turn in range(self.round)]
        return [reached.index(max(reached)), max(reached)]

    def fits(self, p, turn):
        ply = self.ply_told(p)
        self.refuse(-22, turn >= self.round)
        return [int(self.may_be(ply, turn)), self.how_near(ply, turn, self.others(ply))]

    def near(self, p, q):
        one, two = self.ply_told(p), self.ply_told(q)
        self.refuse(-22, p == q)
        self.refuse(-6, one["turn"] is None or two["turn"] is None)
        return [self.how_near(one, one["turn"], [two])]


def some_begin(numbers):
    girth = numbers.one_of((100, 120, 199, 200, 250, 300, 333))
    near = numbers.one_of((0, 1, 5, 10, 20, 50, 100, 110))
    call = ["begin", *numbers.one_of(SLANTS), girth, near, numbers.one_of((1, 20, 50, 70, 100, 200))]
    if numbers.below(6) == 0:
        call[numbers.within(1, 6)] = numbers.one_of((0, 99, 501, 1501, BIG))
    return tuple(call)


def some_call(numbers, girth):
    def ply():
        return numbers.below(8)

    def turn():
        return numbers.one_of((0, girth - 1, girth, girth // 2)) if numbers.below(5) == 0 else numbers.below(girth)

    name = numbers.one_of((
        "roll", "ply", "ply", "ply", "lay", "lay", "lay", "lift", "row", "least", "best", "fits", "near",
    ))
    if name == "roll":
        return (name, numbers.one_of((149, 150, 151, 160, 200, 250, 400)), numbers.within(0, 3000))
    if name == "ply":
        return (name, numbers.below(3), numbers.one_of((0, 1, 2, 3, 10, 50, 100, 400, 2001)))
    if name == "row":
        return (name, *[ply() for count in range(numbers.below(5))])
    if name in ("lay", "fits"):
        return (name, ply(), turn())
    return (name, ply(), ply()) if name == "near" else (name, ply())


def some_line(seed):
    numbers = Numbers(seed)
    start = some_begin(numbers)
    girth = start[4] or 1
    calls = [some_call(numbers, girth) for count in range(numbers.below(3))]
    calls.extend([start, ("roll", 150, 3000), ("roll", 170, 2000), ("ply", 0, 50), ("ply", 1, 30)])
    for count in range(30):
        calls.append(some_begin(numbers) if numbers.below(60) == 0 else some_call(numbers, girth))
    return calls


class ModelTest(unittest.TestCase):
    def test_lines_of_all_sorts(self):
        met = {}
        for seed in range(600):
            calls = some_line(seed)
            model = Model()
            for call, answer in zip(calls, told(*calls)):
                self.assertEqual(answer, model.answer(call[0], call[1:]), (seed, call, calls))
                met[(call[0], min(answer[0], 0))] = True
        # Lines that never come to the promises would tell nothing.
        for name, refusals in (
            ("begin", (0, -22)), ("roll", (0, -22)), ("ply", (0, -2, -22, -33, -12)),
            ("lay", (0, -2, -22, -17, -40)), ("lift", (0, -2, -6)), ("row", (0, -22, -2, -17, -33)),
            ("least", (0, -2, -17, -33)), ("best", (0, -2, -6)), ("fits", (0, -2, -22)),
            ("near", (0, -2, -22, -6)),
        ):
            for refusal in refusals:
                self.assertIn((name, refusal), met)


if __name__ == "__main__":
    unittest.main()
