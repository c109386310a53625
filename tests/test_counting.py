import unittest

from helper import BIG, begun, last, of_three_and_two, told


def filled(width, length, girth=1000, near=10, short=50):
    return [begun(girth, near, short), ("roll", width, length)]


class MostTest(unittest.TestCase):
    def test_how_many_then_how_much_one_takes(self):
        self.assertEqual(last(*filled(600, 1000), ("most", 0, 3)), [200, 5])
        self.assertEqual(last(*filled(300, 1000), ("most", 0, 100)), [2, 334])
        self.assertEqual(last(*filled(240, 1000), ("most", 0, 100)), [1, 501])
        self.assertEqual(last(*filled(150, 1000), ("most", 0, 2000)), [0, 13336])

    def test_just_so_many_and_one_millimetre_less(self):
        for fabric, pieces in ((600, 1), (300, 2), (240, 3), (150, 4)):
            for width, each in ((1, 2), (2, 4), (3, 5), (100, 167), (2000, 3334)):
                takes = pieces * each
                for count in (1, 2, 7, 40):
                    call = ("most", 0, width)
                    self.assertEqual(last(*filled(fabric, count * takes), call), [count, takes])
                    self.assertEqual(last(*filled(fabric, count * takes - 1), call), [count - 1, takes])

    def test_of_what_is_left(self):
        cut = [*filled(300, 668), ("ply", 0, 100)]
        self.assertEqual(last(*cut, ("most", 0, 100)), [1, 334])
        self.assertEqual(last(*cut, ("most", 0, 101)), [0, 338])
        self.assertEqual(last(*cut, ("ply", 0, 1), ("most", 0, 100)), [0, 334])

    def test_nothing_at_all_is_left(self):
        cut = [*filled(300, 334), ("ply", 0, 100)]
        for width, takes in ((1, 4), (100, 334), (2000, 6668)):
            self.assertEqual(last(*cut, ("most", 0, width)), [0, takes])

    def test_of_the_roll_that_is_told(self):
        rolls = [begun(), ("roll", 600, 10), ("roll", 300, 100), ("ply", 0, 3)]
        self.assertEqual(last(*rolls, ("most", 0, 3)), [1, 5])
        self.assertEqual(last(*rolls, ("most", 1, 3)), [10, 10])

    def test_a_shorter_piece_takes_as_much(self):
        # 1,001 round is three pieces of 500, 451 and 50.
        self.assertEqual(last(*filled(300, 15, 1001), ("most", 0, 3)), [1, 15])
        self.assertEqual(last(*filled(300, 14, 1001), ("most", 0, 3)), [0, 15])

    def test_the_bound_of_plies_is_none_of_its_own(self):
        full = [*filled(600, 1000000), *[("ply", 0, 1)] * 12]
        self.assertEqual(last(*full, ("ply", 0, 1)), [-28])
        self.assertEqual(last(*full, ("most", 0, 1)), [499988, 2])

    def test_no_such_roll(self):
        for number in (1, 10, BIG):
            self.assertEqual(last(*filled(600, 10), ("most", number, 3)), [-2])
        self.assertEqual(last(begun(), ("most", 0, 3)), [-2])

    def test_width_out_of_range(self):
        for width in (0, 2001, BIG):
            self.assertEqual(last(*filled(600, 10), ("most", 0, width)), [-22])
        for width, answer in ((1, [5, 2]), (2000, [0, 3334])):
            self.assertEqual(last(*filled(600, 10), ("most", 0, width)), answer)

    def test_no_such_ply(self):
        self.assertEqual(last(*filled(150, 1000, 399, 10, 200), ("most", 0, 3)), [-33])
        self.assertEqual(last(*filled(150, 1, 399, 10, 200), ("most", 0, 2000)), [-33])
        self.assertEqual(last(*filled(150, 1000, 400, 10, 200), ("most", 0, 3)), [100, 10])

    def test_which_refusal_is_told_first(self):
        none = filled(150, 1000, 399, 10, 200)
        self.assertEqual(last(*none, ("most", 1, 0)), [-2])
        self.assertEqual(last(*none, ("most", 1, 3)), [-2])
        self.assertEqual(last(*none, ("most", 0, 0)), [-22])
        self.assertEqual(last(*none, ("most", 0, 2001)), [-22])


class PieceTest(unittest.TestCase):
    def hold(self, *cases):
        for width, girth, short, answer in cases:
            told_so = (width, girth, short)
            self.assertEqual(last(begun(girth, 10, short), ("piece", width)), answer, told_so)

    def test_what_it_covers_how_many_how_long_the_last_is(self):
        self.hold(
            (300, 1000, 50, [500, 2, 500]), (240, 1000, 50, [400, 3, 200]), (450, 1000, 50, [750, 2, 250]),
            (150, 1000, 50, [250, 4, 250]), (301, 1400, 1, [501, 3, 398]),
        )

    def test_a_width_that_covers_just_the_drum_and_more(self):
        self.hold(
            (600, 1000, 50, [1000, 1, 1000]), (601, 1000, 50, [1001, 1, 1000]),
            (2000, 1000, 50, [3333, 1, 1000]), (60, 100, 200, [100, 1, 100]),
        )

    def test_one_that_does_not_go_round_just(self):
        # The last one would be 2; the first of the two is cut.
        self.hold((599, 1000, 50, [998, 2, 50]), (300, 501, 200, [500, 2, 200]))

    def test_a_last_piece_one_millimetre_short(self):
        self.hold(
            (150, 551, 50, [250, 3, 51]), (150, 550, 50, [250, 3, 50]), (150, 549, 50, [250, 3, 50]),
            (150, 501, 50, [250, 3, 50]), (150, 500, 50, [250, 2, 250]),
        )

    def test_one_that_can_not_be(self):
        self.hold(
            (150, 400, 200, [250, 2, 200]), (150, 399, 200, [-33]), (150, 650, 200, [250, 3, 200]),
            (150, 649, 200, [-33]), (1, 1000, 50, [-33]), (29, 1000, 50, [-33]),
        )

    def test_pieces_just_as_long_as_the_shortest(self):
        self.hold((30, 1000, 50, [50, 20, 50]), (30, 1001, 50, [-33]), (30, 999, 50, [-33]))

    def test_the_least_width(self):
        self.hold((1, 1000, 1, [1, 1000, 1]), (2, 1000, 1, [3, 334, 1]), (2, 1001, 2, [3, 334, 2]))

    def test_by_the_slant(self):
        for slant, answer in (
            ((4, 3, 5), [375, 3, 250]), ((12, 5, 13), [325, 4, 50]), ((5, 12, 13), [780, 2, 220]),
        ):
            self.assertEqual(last(begun(slant=slant), ("piece", 300)), answer, slant)

    def test_width_out_of_range(self):
        for width in (0, 2001, BIG):
            self.assertEqual(last(begun(), ("piece", width)), [-22])
            self.assertEqual(last(begun(399, 10, 200), ("piece", width)), [-22])

    def test_as_plies_are_cut(self):
        for fabric in (150, 151, 207, 333, 599, 600, 601, 2000):
            cut = [*filled(fabric, 1000), ("ply", 0, 3)]
            each = told(*cut, ("piece", fabric), ("splices", 0))
            covers, pieces, length = each[-2]
            self.assertEqual(each[-3], [0, pieces])
            self.assertEqual(1000 - each[-1][-1], length)
            self.assertEqual(covers, fabric * 5 // 3)


class RestTest(unittest.TestCase):
    ROLLS = [begun(), ("roll", 600, 1000), ("roll", 150, 21)]

    def test_what_is_left_then_how_wide_how_long(self):
        self.assertEqual(last(*self.ROLLS, ("rest", 0)), [1000, 600, 1000])
        self.assertEqual(last(*self.ROLLS, ("rest", 1)), [21, 150, 21])

    def test_behind_plies(self):
        cut = [*self.ROLLS, ("ply", 0, 100), ("ply", 1, 3), ("ply", 0, 1)]
        self.assertEqual(last(*cut, ("rest", 0)), [831, 600, 1000])
        self.assertEqual(last(*cut, ("rest", 1)), [1, 150, 21])
        self.assertEqual(last(*cut, ("ply", 1, 1), ("rest", 1)), [1, 150, 21])
        self.assertEqual(last(*cut, ("row", 0, 1), ("lift", 0), ("rest", 0)), [831, 600, 1000])

    def test_nothing_is_left(self):
        self.assertEqual(last(begun(), ("roll", 150, 20), ("ply", 0, 3), ("rest", 0)), [0, 150, 20])

    def test_no_such_roll(self):
        for number in (2, 10, BIG):
            self.assertEqual(last(*self.ROLLS, ("rest", number)), [-2])
        self.assertEqual(last(begun(), ("rest", 0)), [-2])
        self.assertEqual(last(*self.ROLLS, ("roll", 149, 5), ("rest", 2)), [-2])


class SumsTest(unittest.TestCase):
    CUT = [*of_three_and_two(), ("roll", 2000, 7)]

    def test_of_no_rolls(self):
        self.assertEqual(last(begun(), ("sums",)), [0, 0, 0, 0])

    def test_how_long_how_much_is_left_how_much_is_in_plies(self):
        self.assertEqual(last(begun(), ("roll", 600, 30), ("sums",)), [0, 30, 30, 0])
        self.assertEqual(last(*self.CUT, ("sums",)), [0, 2007, 1982, 25])
        self.assertEqual(last(*self.CUT, ("ply", 2, 3), ("sums",)), [0, 2007, 1977, 30])

    def test_of_as_much_as_may_be(self):
        rolls = [begun(), *[("roll", 150, 1000000)] * 11]
        self.assertEqual(last(*rolls, ("sums",)), [0, 10000000, 10000000, 0])
        self.assertEqual(last(*rolls, ("ply", 9, 2000), ("sums",)), [0, 10000000, 9986664, 13336])

    def test_refused_plies_and_rolls_do_not_count(self):
        for call in (("ply", 2, 7), ("ply", 3, 1), ("ply", 0, 0), ("roll", 150, 0), ("roll", 149, 9)):
            self.assertEqual(last(*self.CUT, call, ("sums",)), [0, 2007, 1982, 25], call)

    def test_plies_laid_and_lifted_stay_cut(self):
        for calls in ([("row", 0, 1)], [("lay", 0, 5), ("lift", 0)], [("lay", 0, 5), ("lay", 1, 5)]):
            self.assertEqual(last(*self.CUT, *calls, ("sums",)), [0, 2007, 1982, 25], calls)

    def test_behind_a_second_begin(self):
        self.assertEqual(last(*self.CUT, begun(99), ("sums",)), [0, 2007, 1982, 25])
        self.assertEqual(last(*self.CUT, begun(), ("sums",)), [0, 0, 0, 0])
        anew = [begun(), ("roll", 150, 50), ("ply", 0, 3)]
        self.assertEqual(last(*self.CUT, *anew, ("sums",)), [0, 50, 30, 20])


class StateTest(unittest.TestCase):
    CUT = [*of_three_and_two(), ("roll", 2000, 7)]

    def test_what_was_begun_with(self):
        for girth, near, short in ((1000, 10, 50), (100, 500, 200), (1500, 0, 1)):
            self.assertEqual(last(begun(girth, near, short), ("state",)), [0, 0, 0, girth, near, short])

    def test_rolls_and_plies_and_those_that_are_laid(self):
        self.assertEqual(last(*self.CUT, ("state",)), [0, 3, 2, 1000, 10, 50])
        self.assertEqual(last(*self.CUT, ("lay", 1, 0), ("state",)), [1, 3, 2, 1000, 10, 50])
        self.assertEqual(last(*self.CUT, ("row", 0, 1), ("state",)), [2, 3, 2, 1000, 10, 50])
        self.assertEqual(last(*self.CUT, ("row", 0, 1), ("lift", 1), ("state",)), [1, 3, 2, 1000, 10, 50])

    def test_as_many_as_may_be(self):
        full = [
            begun(), *[("roll", 600, 1000)] * 11, *[("ply", 9, 3)] * 13, ("row", *range(12)), ("state",),
        ]
        self.assertEqual(last(*full), [12, 10, 12, 1000, 10, 50])

    def test_what_is_refused_does_not_count(self):
        laid = [*self.CUT, ("lay", 0, 5)]
        for call in (
            ("roll", 149, 1), ("ply", 2, 7), ("ply", 0, 0), ("ply", 3, 3), ("lay", 1, 5), ("lay", 0, 6),
            ("lay", 2, 0), ("lift", 1), ("row", 1, 0), ("row", 1, 1), ("row", 1, 2),
        ):
            self.assertEqual(last(*laid, call, ("state",)), [1, 3, 2, 1000, 10, 50], call)

    def test_behind_a_second_begin(self):
        laid = [*self.CUT, ("lay", 0, 5)]
        for refused in (begun(99), begun(near=501), begun(short=0), begun(slant=(3, 4, 6))):
            self.assertEqual(last(*laid, refused, ("state",)), [1, 3, 2, 1000, 10, 50], refused)
        self.assertEqual(last(*laid, begun(300, 7, 9), ("state",)), [0, 0, 0, 300, 7, 9])


if __name__ == "__main__":
    unittest.main()
