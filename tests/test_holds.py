"""What the document says that holds, a to f, asked of the program by its own calls."""

import unittest

from helper import ASKING, BIG, Numbers, begun, last, some_line, told

# What can be told of an object: the same for two that are the same.
PROBE = [
    ("state",), ("sums",), ("all",), *[("rest", roll) for roll in range(10)],
    *[(name, ply) for ply in range(12) for name in ("look", "splices", "where")],
]


def probed(calls):
    return told(*calls, *PROBE)[len(calls):]


def some_begun_lines(count):
    """Lines behind which an object is begun."""
    lines = []
    seed = 0
    while len(lines) < count:
        calls = some_line(seed, 10 + Numbers(seed).below(100))
        if last(*calls, ("state",)) != [-11]:
            lines.append(calls)
        seed += 1
    return lines


def state_of(calls):
    """round, near, shortest; how many rolls and plies; the plies that are laid."""
    (laid, rolls, plies, *begin), (least, *numbers) = told(*calls, ("state",), ("all",))[-2:]
    assert laid == len(numbers)
    return begin, rolls, plies, numbers


def apart(one, two, girth):
    return min(abs(one - two), girth - abs(one - two))


class HoldsTest(unittest.TestCase):
    def test_a_pieces_go_just_round(self):
        met = {}
        for slant in ((3, 4, 5), (12, 5, 13), (924, 43, 925)):
            for girth in (100, 249, 301, 500, 777, 1000, 1499, 1500):
                for short in (1, 50, 149, 150, 200):
                    for fabric in (150, 151, 207, 333, 599, 600, 601, 2000):
                        calls = [begun(girth, 0, short, slant), ("roll", fabric, 1000000), ("ply", 0, 1)]
                        self.hold_a(calls, girth, short, fabric, met)
        self.assertEqual(set(met), {False, True})

    def hold_a(self, calls, girth, short, fabric, met):
        cut, piece, splices = told(*calls, ("piece", fabric), ("splices", 0))[-3:]
        met[cut == [-33]] = True
        if cut == [-33]:
            self.assertEqual((piece, splices), ([-33], [-2]), calls)
            return
        covers, count, length = piece
        starts = splices[1:]
        self.assertEqual((cut, splices[0], len(starts)), ([0, count], count, count), calls)
        ends = starts[1:] + [girth]
        pieces = [end - start for start, end in zip(starts, ends)]
        self.assertEqual((starts[0], pieces[-1]), (0, length), calls)
        # All but the last two cover as much as told; by one fewer it doesn't go round.
        self.assertEqual(pieces[:-2], [covers] * (count - 2), calls)
        self.assertLessEqual(max(pieces), covers, calls)
        self.assertLess((count - 1) * covers, girth, calls)
        self.assertGreaterEqual(count * covers, girth, calls)
        if count > 1:
            self.assertGreaterEqual(min(pieces), short, calls)
            self.assertTrue(pieces[-2] == covers or length == short, calls)

    def test_b_no_two_splices_are_nearer_than_may_be(self):
        several = 0
        for calls in some_begun_lines(300):
            (girth, near, short), rolls, plies, laid = state_of(calls)
            places = [told(*calls, ("where", ply))[-1][1:] for ply in laid]
            ways = [
                apart(one, two, girth) for first in range(len(laid)) for second in range(first)
                for one in places[first] for two in places[second]
            ]
            several += len(laid) > 1
            self.assertEqual(last(*calls, ("all",)), [min(ways, default=girth), *laid], calls)
            for way in ways:
                self.assertGreaterEqual(way, near, calls)
        self.assertGreater(several, 50)

    def test_c_with_no_lesser_turn_may_it_be_laid_and_by_none_is_it_farther(self):
        met = {}
        for calls in some_begun_lines(60):
            (girth, near, short), rolls, plies, laid = state_of(calls)
            if girth > 300:
                continue
            for ply in range(plies):
                least, best, *fits = told(
                    *calls, ("least", ply), ("best", ply), *[("fits", ply, turn) for turn in range(girth)],
                )[len(calls):]
                reached = [near_then for fit, near_then in fits]
                for fit, near_then in fits:
                    self.assertEqual(fit, int(near_then >= near), calls)
                if ply in laid:
                    self.assertEqual(least, [-17], calls)
                elif [fit for fit, near_then in fits if fit] == []:
                    self.assertEqual(least, [-33], calls)
                else:
                    self.assertEqual(least, [[fit for fit, near_then in fits].index(1)], calls)
                if [other for other in laid if other != ply]:
                    self.assertEqual(best, [reached.index(max(reached)), max(reached)], calls)
                else:
                    self.assertEqual((best, set(reached)), ([-6], {girth}), calls)
                met[min(least[0], 0), min(best[0], 0)] = True
        self.assertEqual({least for least, best in met}, {0, -17, -33})
        self.assertEqual({best for least, best in met}, {0, -6})

    def test_d_what_a_roll_lacks_is_in_plies(self):
        cut_from = 0
        for calls in some_begun_lines(300):
            begin, rolls, plies, laid = state_of(calls)
            lacks = [0] * rolls
            for ply in range(plies):
                roll, width, pieces, turn = last(*calls, ("look", ply))
                lacks[roll] += last(*calls, ("most", roll, width))[1]
            for roll in range(rolls):
                left, width, length = last(*calls, ("rest", roll))
                self.assertEqual(length - left, lacks[roll], calls)
            each = [last(*calls, ("rest", roll)) for roll in range(rolls)]
            length, left = sum(rest[2] for rest in each), sum(rest[0] for rest in each)
            self.assertEqual(last(*calls, ("sums",)), [0, length, left, sum(lacks)], calls)
            cut_from += sum(lacks) > 0
        self.assertGreater(cut_from, 100)

    def test_d_so_many_plies_it_gives_and_no_more(self):
        for fabric in (150, 240, 300, 600):
            for width in (1, 2, 3, 100, 1999, 2000):
                for length in (1, 2, 7, 8, 9, 100, 10000):
                    calls = [begun(), ("roll", fabric, length)]
                    many, takes = last(*calls, ("most", 0, width))
                    if many > 11:
                        continue
                    cut = [("ply", 0, width)] * (many + 1)
                    each = told(*calls, *cut, ("rest", 0), ("most", 0, width))[2:]
                    self.assertEqual([answer[0] for answer in each[:many + 1]], [*range(many), -12])
                    self.assertEqual(each[-2], [length - many * takes, fabric, length])
                    self.assertEqual(each[-1], [0, takes])

    def test_e_as_far_from_either_side_and_never_more_than_half_round(self):
        pairs = 0
        for calls in some_begun_lines(300):
            (girth, near, short), rolls, plies, laid = state_of(calls)
            for one in laid:
                for two in laid:
                    if one != two:
                        there, back = told(*calls, ("near", one, two), ("near", two, one))[-2:]
                        self.assertEqual(there, back, calls)
                        self.assertLessEqual(there[0], girth // 2, calls)
                        pairs += 1
        self.assertGreater(pairs, 100)

    def test_e_a_place_is_as_far_as_it_is_told(self):
        for girth in (100, 101):
            for turn in (0, 1, 49, 50, 51, girth - 1):
                for place in range(girth):
                    n = apart(place, turn, girth)
                    calls = [begun(girth), ("roll", 600, 10), ("ply", 0, 3)]
                    there = told(*calls, ("lay", 0, turn), ("at", place, n), ("at", place, max(n - 1, 0)))[-2:]
                    back = told(*calls, ("lay", 0, place), ("at", turn, n), ("at", turn, max(n - 1, 0)))[-2:]
                    self.assertEqual(there, [[1, 0], [0] if n else [1, 0]], (girth, turn, place))
                    self.assertEqual(there, back)
                    self.assertEqual(last(*calls, ("lay", 0, turn), ("at", place, girth // 2)), [1, 0])

    def test_f_what_is_refused_and_what_only_asks_changes_nothing(self):
        for seed in range(400):
            calls = some_line(seed, 1 + Numbers(seed).below(350))
            answered = told(*calls)
            kept = [
                (call, answer) for call, answer in zip(calls, answered)
                if answer[0] >= 0 and call[0] not in ASKING
            ]
            bare = [call for call, answer in kept]
            self.assertEqual(told(*bare, *PROBE)[:len(bare)], [answer for call, answer in kept])
            self.assertEqual(probed(bare), probed(calls))

    def test_f_each_call_of_a_line_alone(self):
        for seed in range(25):
            calls = some_line(seed, 60)
            for end, answer in enumerate(told(*calls)):
                if answer[0] < 0 or calls[end][0] in ASKING:
                    self.assertEqual(probed(calls[:end]), probed(calls[:end + 1]), calls[:end + 1])

    def test_half_round_reaches_all_that_are_laid(self):
        for calls in some_begun_lines(100):
            (girth, near, short), rolls, plies, laid = state_of(calls)
            for n in (girth // 2, girth, BIG):
                self.assertEqual(last(*calls, ("at", girth - 1, n)), [len(laid), *laid], calls)


if __name__ == "__main__":
    unittest.main()
