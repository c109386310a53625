import unittest

from biasplies.slant import pieces_round, starts_of
from helper import BIG, begun, last, splices_of, told

NO_PLY = [begun(300, 10, 200), ("roll", 150, 1000)]


class RollTest(unittest.TestCase):
    def test_answers_its_number(self):
        self.assertEqual(told(begun(), ("roll", 150, 1), ("roll", 2000, 1000000)), [[0], [0], [1]])

    def test_out_of_range_each_alone(self):
        for width, length in (
            (149, 10), (2001, 10), (0, 10), (BIG, 10), (150, 0), (150, 1000001), (150, BIG),
        ):
            each = told(begun(), ("roll", width, length), ("roll", 150, 10))
            self.assertEqual(each, [[0], [-22], [0]], (width, length))

    def test_ten_at_most(self):
        each = told(begun(), *[("roll", 150, 10)] * 11)
        self.assertEqual(each[1:], [[number] for number in range(10)] + [[-28]])

    def test_out_of_range_is_told_ahead_of_too_many(self):
        self.assertEqual(last(begun(), *[("roll", 150, 10)] * 10, ("roll", 149, 10)), [-22])


class PlyTest(unittest.TestCase):
    def test_answers_its_number_and_its_pieces(self):
        each = told(
            begun(), ("roll", 600, 1000), ("roll", 150, 10000),
            ("ply", 0, 3), ("ply", 1, 500), ("ply", 0, 3),
        )
        self.assertEqual(each[3:], [[0, 1], [1, 4], [2, 1]])

    def test_pieces_go_by_the_fabrics_width_and_not_the_plys(self):
        for width in (1, 3, 150, 2000):
            self.assertEqual(last(begun(), ("roll", 240, 1000000), ("ply", 0, width)), [0, 3])

    def test_it_is_cut_and_not_laid(self):
        cut = [begun(), ("roll", 600, 1000), ("ply", 0, 3)]
        self.assertEqual(last(*cut, ("lift", 0)), [-6])
        self.assertEqual(last(*cut, ("lay", 0, 5)), [1])

    def test_no_such_roll(self):
        self.assertEqual(last(begun(), ("ply", 0, 10)), [-2])
        self.assertEqual(last(begun(), ("roll", 600, 100), ("ply", 1, 10)), [-2])
        self.assertEqual(last(begun(), ("roll", 600, 100), ("ply", BIG, 10)), [-2])

    def test_width_out_of_range(self):
        for width in (0, 2001, BIG):
            self.assertEqual(last(begun(), ("roll", 600, 1000000), ("ply", 0, width)), [-22])
        for width in (1, 2000):
            self.assertEqual(last(begun(), ("roll", 600, 1000000), ("ply", 0, width)), [0, 1])

    def test_twelve_at_most(self):
        each = told(begun(), ("roll", 600, 1000), *[("ply", 0, 3)] * 13)
        self.assertEqual(each[2:], [[number, 1] for number in range(12)] + [[-28]])

    def test_no_such_ply(self):
        self.assertEqual(last(*NO_PLY, ("ply", 0, 3)), [-33])

    def test_too_little_is_left(self):
        self.assertEqual(last(begun(), ("roll", 600, 4), ("ply", 0, 3)), [-12])

    def test_no_such_roll_is_told_first(self):
        full = [begun(), ("roll", 600, 1000), *[("ply", 0, 3)] * 12]
        self.assertEqual(last(*full, ("ply", 1, 0)), [-2])
        self.assertEqual(last(*NO_PLY, ("ply", 1, 2001)), [-2])

    def test_width_is_told_ahead_of_the_rest(self):
        full = [begun(), ("roll", 600, 1000), *[("ply", 0, 3)] * 12]
        self.assertEqual(last(*full, ("ply", 0, 0)), [-22])
        self.assertEqual(last(*NO_PLY, ("ply", 0, 2001)), [-22])
        self.assertEqual(last(begun(), ("roll", 600, 1), ("ply", 0, 2001)), [-22])

    def test_too_many_is_told_ahead_of_no_such_ply_and_too_little(self):
        full = [begun(300, 10, 200), ("roll", 180, 60), ("roll", 150, 1000)] + [("ply", 0, 3)] * 12
        self.assertEqual(last(*full), [11, 1])
        self.assertEqual(last(*full, ("ply", 1, 3)), [-28])
        self.assertEqual(last(*full, ("ply", 0, 3)), [-28])

    def test_no_such_ply_is_told_ahead_of_too_little(self):
        self.assertEqual(last(begun(300, 10, 200), ("roll", 150, 1), ("ply", 0, 2000)), [-33])

    def test_a_refused_ply_leaves_the_roll_and_the_numbers(self):
        each = told(
            begun(), ("roll", 600, 10), ("ply", 0, 7), ("ply", 0, 0), ("ply", 1, 1),
            ("ply", 0, 3), ("ply", 0, 3), ("ply", 0, 1),
        )
        self.assertEqual(each[2:], [[-12], [-22], [-2], [0, 1], [1, 1], [-12]])

    def test_a_roll_just_long_enough(self):
        # One piece of a ply 100 wide takes 500 / 3 of the roll, rounded up: 167.
        for pieces, fabric in ((1, 600), (2, 300), (3, 240), (4, 150)):
            for width, each in ((1, 2), (2, 4), (3, 5), (100, 167), (2000, 3334)):
                needed = pieces * each
                cut = ("ply", 0, width)
                self.assertEqual(last(begun(), ("roll", fabric, needed), cut), [0, pieces])
                self.assertEqual(last(begun(), ("roll", fabric, needed - 1), cut), [-12])
                self.assertEqual(last(begun(), ("roll", fabric, 2 * needed), cut, cut), [1, pieces])
                self.assertEqual(last(begun(), ("roll", fabric, 2 * needed - 1), cut, cut), [-12])

    def test_each_roll_is_cut_by_itself(self):
        each = told(
            begun(), ("roll", 600, 5), ("roll", 600, 5),
            ("ply", 1, 3), ("ply", 1, 1), ("ply", 0, 3), ("ply", 0, 1),
        )
        self.assertEqual(each[3:], [[0, 1], [-12], [1, 1], [-12]])

    def test_a_shorter_piece_takes_as_much_of_the_roll(self):
        # 1001 round is three pieces of 500, the last one 50 and the one before it 451.
        self.assertEqual(last(begun(1001), ("roll", 300, 15), ("ply", 0, 3)), [0, 3])
        self.assertEqual(last(begun(1001), ("roll", 300, 14), ("ply", 0, 3)), [-12])


class PiecesTest(unittest.TestCase):
    def test_a_piece_that_covers_just_the_drum(self):
        self.assertEqual(splices_of(600, 1000), [0])
        self.assertEqual(splices_of(601, 1000), [0])
        self.assertEqual(splices_of(2000, 1000), [0])

    def test_pieces_that_cover_just_the_drum(self):
        self.assertEqual(splices_of(300, 1000), [0, 500])
        self.assertEqual(splices_of(150, 1000), [0, 250, 500, 750])

    def test_the_last_is_what_is_left(self):
        self.assertEqual(splices_of(240, 1000), [0, 400, 800])
        self.assertEqual(splices_of(450, 1000), [0, 750])

    def test_cover_is_rounded_down(self):
        # 301 times 5, divided by 3, is 501 and 2 thirds.
        self.assertEqual(splices_of(301, 1400, 1), [0, 501, 1002])
        # 160 times 13, divided by 12, is 173 and 1 third.
        self.assertEqual(splices_of(160, 519, 1, (12, 5, 13)), [0, 173, 346])
        self.assertEqual(splices_of(160, 520, 1, (12, 5, 13)), [0, 173, 346, 519])

    def test_a_not_b_tells_the_slant(self):
        self.assertEqual(splices_of(300, 1000, 50, (4, 3, 5)), [0, 375, 750])

    def test_two_pieces_the_first_cut(self):
        # 599 wide covers 998: the last piece would be 2.
        self.assertEqual(splices_of(599, 1000), [0, 950])
        self.assertEqual(splices_of(300, 501, 200), [0, 301])

    def test_a_last_piece_one_millimetre_short(self):
        self.assertEqual(splices_of(150, 551), [0, 250, 500])
        self.assertEqual(splices_of(150, 550), [0, 250, 500])
        self.assertEqual(splices_of(150, 549), [0, 250, 499])
        self.assertEqual(splices_of(150, 501), [0, 250, 451])
        self.assertEqual(splices_of(150, 500), [0, 250])

    def test_the_one_before_just_long_enough_or_not(self):
        self.assertEqual(splices_of(150, 400, 200), [0, 200])
        self.assertEqual(splices_of(150, 399, 200), [])
        self.assertEqual(splices_of(150, 650, 200), [0, 250, 450])
        self.assertEqual(splices_of(150, 649, 200), [])

    def test_a_shortest_of_1_is_never_undercut(self):
        self.assertEqual(splices_of(150, 251, 1), [0, 250])

    def test_one_piece_may_be_shorter_than_the_shortest(self):
        self.assertEqual(splices_of(150, 100, 200), [0])
        self.assertEqual(splices_of(150, 199, 200), [0])

    def test_they_go_just_round_and_none_of_several_is_too_short(self):
        self.assertEqual(pieces_round(250, 549, 50), [250, 249, 50])
        self.assertEqual(pieces_round(998, 1000, 50), [950, 50])
        for cover in (1, 7, 150, 151, 250, 999, 1000, 1001):
            for girth in (100, 249, 500, 501, 1000, 1500):
                for short in (1, 50, 125, 200):
                    pieces = pieces_round(cover, girth, short)
                    told = (cover, girth, short)
                    if pieces:
                        self.assertEqual(sum(pieces), girth, told)
                        self.assertLess((len(pieces) - 1) * cover, girth, told)
                        self.assertLessEqual(max(pieces), max(cover, short), told)
                    if len(pieces) > 1:
                        self.assertGreaterEqual(min(pieces), short, told)

    def test_splices_are_from_0_on(self):
        self.assertEqual(starts_of([1000]), [0])
        self.assertEqual(starts_of([250, 249, 50]), [0, 250, 499])

    def test_as_many_pieces_as_may_be(self):
        self.assertEqual(splices_of(150, 1500, 1, (924, 43, 925)), list(range(0, 1500, 150)))


if __name__ == "__main__":
    unittest.main()
