"""Lines of all sorts, held against the document's words done the slow way."""

import unittest

from helper import NAMES, Numbers, some_line, told


class Model:
    """The object by the document's words; a refusal is raised as a ValueError."""

    def __init__(self):
        self.round = None

    def answer(self, name, told):
        if name != "begin" and self.round is None:
            return [-11]
        try:
            return getattr(self, name)(*told)
        except ValueError as refusal:
            return [refusal.args[0]]

    def refuse(self, number, when):
        if when:
            raise ValueError(number)

    def roll_told(self, number):
        self.refuse(-2, number >= len(self.rolls))
        return self.rolls[number]

    def ply_told(self, number):
        self.refuse(-2, number >= len(self.plies))
        return self.plies[number]

    def begin(self, a, b, c, girth, near, short):
        self.refuse(-22, a == 0 or b == 0 or c > 1000 or a ** 2 + b ** 2 != c ** 2)
        self.refuse(-22, girth < 100 or girth > 1500 or near > 500 or short < 1 or short > 200)
        self.a, self.c, self.round, self.may, self.short = a, c, girth, near, short
        self.rolls = []
        self.plies = []
        return [0]

    def roll(self, wide, long):
        self.refuse(-22, wide < 150 or wide > 2000 or long < 1 or long > 1000000)
        self.refuse(-28, len(self.rolls) == 10)
        self.rolls.append({"wide": wide, "long": long, "left": long})
        return [len(self.rolls) - 1]

    def covers(self, fabric):
        covers = 0
        while (covers + 1) * self.a <= fabric * self.c:
            covers += 1
        return covers

    def pieces(self, fabric):
        covers = self.covers(fabric)
        pieces = []
        while sum(pieces) < self.round:
            pieces.append(min(covers, self.round - sum(pieces)))
        while len(pieces) > 1 and pieces[-1] < self.short:
            pieces[-1] += 1
            pieces[-2] -= 1
        self.refuse(-33, len(pieces) > 1 and pieces[-2] < self.short)
        return pieces

    def takes(self, pieces, wide):
        each = wide * self.c // self.a + (1 if wide * self.c % self.a else 0)
        return sum(each for piece in pieces)

    def ply(self, r, wide):
        roll = self.roll_told(r)
        self.refuse(-22, wide < 1 or wide > 2000)
        self.refuse(-28, len(self.plies) == 12)
        pieces = self.pieces(roll["wide"])
        takes = self.takes(pieces, wide)
        self.refuse(-12, takes > roll["left"])
        roll["left"] -= takes
        splices = [sum(pieces[:i]) for i in range(len(pieces))]
        self.plies.append({"roll": r, "wide": wide, "takes": takes, "splices": splices, "turn": None})
        return [len(self.plies) - 1, len(pieces)]

    def apart(self, one, two):
        way = max(one, two) - min(one, two)
        return min(way, self.round - way)

    def how_near(self, ply, turn, others):
        least = self.round
        for other in others:
            for i in ply["splices"]:
                for j in other["splices"]:
                    one, two = (i + turn) % self.round, (j + other["turn"]) % self.round
                    least = min(least, self.apart(one, two))
        return least

    def others(self, ply):
        return [other for other in self.plies if other is not ply and other["turn"] is not None]

    def may_be(self, ply, turn):
        return self.how_near(ply, turn, self.others(ply)) >= self.may

    def least_of(self, ply):
        for turn in range(self.round):
            if self.may_be(ply, turn):
                return turn
        return None

    def lay(self, p, turn):
        ply = self.ply_told(p)
        self.refuse(-22, turn >= self.round)
        self.refuse(-17, ply["turn"] is not None)
        self.refuse(-40, not self.may_be(ply, turn))
        ply["turn"] = turn
        return [1 + len(self.others(ply))]

    def lift(self, p):
        ply = self.ply_told(p)
        self.refuse(-6, ply["turn"] is None)
        turn, ply["turn"] = ply["turn"], None
        return [turn]

    def row(self, *numbers):
        self.refuse(-22, any(numbers.count(number) > 1 for number in numbers))
        plies = [self.ply_told(number) for number in numbers]
        self.refuse(-17, any(ply["turn"] is not None for ply in plies))
        for ply in plies:
            ply["turn"] = self.least_of(ply)
            if ply["turn"] is None:
                for laid in plies:
                    laid["turn"] = None
                raise ValueError(-33)
        return [len(plies)] + [ply["turn"] for ply in plies]

    def least(self, p):
        ply = self.ply_told(p)
        self.refuse(-17, ply["turn"] is not None)
        turn = self.least_of(ply)
        self.refuse(-33, turn is None)
        return [turn]

    def best(self, p):
        ply = self.ply_told(p)
        self.refuse(-6, not self.others(ply))
        reached = [self.how_near(ply, turn, self.others(ply)) for turn in range(self.round)]
        return [reached.index(max(reached)), max(reached)]

    def fits(self, p, turn):
        ply = self.ply_told(p)
        self.refuse(-22, turn >= self.round)
        return [int(self.may_be(ply, turn)), self.how_near(ply, turn, self.others(ply))]

    def near(self, p, q):
        one, two = self.ply_told(p), self.ply_told(q)
        self.refuse(-22, p == q)
        self.refuse(-6, one["turn"] is None or two["turn"] is None)
        return [self.how_near(one, one["turn"], [two])]

    def laid(self):
        return [number for number, ply in enumerate(self.plies) if ply["turn"] is not None]

    def all(self):
        least = self.round
        for number in self.laid():
            ply = self.plies[number]
            least = min(least, self.how_near(ply, ply["turn"], self.others(ply)))
        return [least] + self.laid()

    def splices(self, p):
        ply = self.ply_told(p)
        return [len(ply["splices"])] + ply["splices"]

    def places(self, ply):
        return [(splice + ply["turn"]) % self.round for splice in ply["splices"]]

    def where(self, p):
        ply = self.ply_told(p)
        self.refuse(-6, ply["turn"] is None)
        return [ply["turn"]] + self.places(ply)

    def most(self, r, wide):
        roll = self.roll_told(r)
        self.refuse(-22, wide < 1 or wide > 2000)
        takes = self.takes(self.pieces(roll["wide"]), wide)
        left, many = roll["left"], 0
        while left >= takes:
            left -= takes
            many += 1
        return [many, takes]

    def piece(self, fabric):
        self.refuse(-22, fabric < 1 or fabric > 2000)
        pieces = self.pieces(fabric)
        return [self.covers(fabric), len(pieces), pieces[-1]]

    def look(self, p):
        ply = self.ply_told(p)
        turn_and_one = 0 if ply["turn"] is None else ply["turn"] + 1
        return [ply["roll"], ply["wide"], len(ply["splices"]), turn_and_one]

    def rest(self, r):
        roll = self.roll_told(r)
        return [roll["left"], roll["wide"], roll["long"]]

    def at(self, place, n):
        self.refuse(-22, place >= self.round)
        found = [
            number for number in self.laid()
            if any(self.apart(place, other) <= n for other in self.places(self.plies[number]))
        ]
        return [len(found)] + found

    def sums(self):
        long = sum(roll["long"] for roll in self.rolls)
        left = sum(roll["left"] for roll in self.rolls)
        return [0, long, left, sum(ply["takes"] for ply in self.plies)]

    def state(self):
        return [len(self.laid()), len(self.rolls), len(self.plies), self.round, self.may, self.short]


# What each call answers at some time: 0 stands for all that's not a refusal.
ANSWERED = {
    "begin": (0, -22), "roll": (0, -11, -22, -28), "ply": (0, -11, -2, -22, -28, -33, -12),
    "lay": (0, -11, -2, -22, -17, -40), "lift": (0, -11, -2, -6), "row": (0, -11, -22, -2, -17, -33),
    "least": (0, -11, -2, -17, -33), "best": (0, -11, -2, -6), "fits": (0, -11, -2, -22),
    "near": (0, -11, -2, -22, -6), "all": (0, -11), "splices": (0, -11, -2), "where": (0, -11, -2, -6),
    "most": (0, -11, -2, -22, -33), "piece": (0, -11, -22, -33), "look": (0, -11, -2),
    "rest": (0, -11, -2), "at": (0, -11, -22), "sums": (0, -11), "state": (0, -11),
}


class ModelTest(unittest.TestCase):
    def hold(self, calls, met):
        model = Model()
        for call, answer in zip(calls, told(*calls)):
            self.assertEqual(answer, model.answer(call[0], call[1:]), (call, calls))
            met[(call[0], min(answer[0], 0))] = True

    def test_lines_of_all_sorts(self):
        met = {}
        for seed in range(2000):
            self.hold(some_line(seed, 1 + Numbers(seed).below(60)), met)
        for seed in range(40):
            self.hold(some_line(5000 + seed, 400 - 7 * seed), met)
        for seed in range(20):
            self.hold(some_line(6000 + seed, 40, (1000, 1499, 1500)), met)
        # Lines that never come to the promises would tell nothing.
        self.assertEqual(tuple(ANSWERED), NAMES)
        self.assertEqual(set(met), {(name, answer) for name in NAMES for answer in ANSWERED[name]})


if __name__ == "__main__":
    unittest.main()
