import unittest

from helper import BIG, begun, last, of_three_and_two, ones, splices_of, told

# Ten pieces of 150 on 1,500 round.
OF_TEN = [("begin", 924, 43, 925, 1500, 0, 1), ("roll", 150, 1000), ("ply", 0, 1)]


class AllTest(unittest.TestCase):
    def test_none_is_laid(self):
        self.assertEqual(last(begun(), ("all",)), [1000])
        self.assertEqual(last(begun(100), ("all",)), [100])
        self.assertEqual(last(*ones(3), ("all",)), [1000])

    def test_one_is_laid(self):
        self.assertEqual(last(*ones(3), ("lay", 1, 0), ("all",)), [1000, 1])
        self.assertEqual(last(*ones(3, 1500), ("lay", 2, 1499), ("all",)), [1500, 2])

    def test_of_one_its_own_splices_do_not_count(self):
        self.assertEqual(last(*of_three_and_two(), ("lay", 0, 7), ("all",)), [1000, 0])
        # 599 wide: splices at 0 and 950.
        two = [begun(), ("roll", 599, 1000), ("roll", 600, 1000), ("ply", 0, 3), ("ply", 1, 3)]
        self.assertEqual(last(*two, ("lay", 0, 0), ("lay", 1, 475), ("all",)), [475, 0, 1])

    def test_several_are_told_rising(self):
        laid = [*ones(4), ("lay", 3, 0), ("lay", 1, 300)]
        self.assertEqual(last(*laid, ("all",)), [300, 1, 3])
        self.assertEqual(last(*laid, ("lay", 0, 900), ("all",)), [100, 0, 1, 3])
        self.assertEqual(last(*laid, ("lay", 0, 900), ("lay", 2, 310), ("all",)), [10, 0, 1, 2, 3])

    def test_of_any_two(self):
        for turns in ((0, 400, 393), (400, 0, 393), (400, 393, 0), (996, 3, 500), (3, 500, 996)):
            laid = [("lay", ply, turn) for ply, turn in enumerate(turns)]
            self.assertEqual(last(*ones(3, near=7), *laid, ("all",)), [7, 0, 1, 2], turns)

    def test_two_splices_on_one_place(self):
        laid = [*ones(3, near=0), ("lay", 0, 10), ("lay", 1, 260), ("lay", 2, 260)]
        self.assertEqual(last(*laid, ("all",)), [0, 0, 1, 2])
        # 0, 400, 800 by 600 are at 600, 0, 400; 0, 500 by 500 are at 500, 0.
        on_one = [*of_three_and_two(near=0), ("lay", 0, 600), ("lay", 1, 500)]
        self.assertEqual(last(*on_one, ("all",)), [0, 0, 1])

    def test_all_on_one_place(self):
        laid = [("lay", ply, 77) for ply in range(12)]
        self.assertEqual(last(*ones(12, near=0), *laid, ("all",)), [0, *range(12)])

    def test_the_shorter_way_round(self):
        for girth, turns, near in (
            (1000, (0, 500), 500), (1000, (0, 501), 499), (999, (0, 499), 499), (999, (500, 0), 499),
            (1000, (995, 5), 10), (1000, (5, 995), 10), (1000, (0, 990), 10), (100, (1, 50), 49),
        ):
            laid = [*ones(2, girth), ("lay", 0, turns[0]), ("lay", 1, turns[1])]
            self.assertEqual(last(*laid, ("all",)), [near, 0, 1], (girth, turns))

    def test_of_several_splices(self):
        # 0, 400, 800 by 120 are at 120, 520, 920; 0, 500 stay.
        self.assertEqual(last(*of_three_and_two(), ("lay", 0, 120), ("lay", 1, 0), ("all",)), [20, 0, 1])
        # By 205 they're at 205, 605, 5; 0 and 500 by 490 are at 490, 990.
        self.assertEqual(last(*of_three_and_two(), ("lay", 0, 205), ("lay", 1, 490), ("all",)), [15, 0, 1])

    def test_lifted_and_refused_ones_do_not_count(self):
        laid = [*ones(3), ("lay", 0, 0), ("lay", 1, 100), ("lay", 2, 109)]
        self.assertEqual(last(*laid, ("all",)), [100, 0, 1])
        self.assertEqual(last(*laid, ("lift", 0), ("all",)), [1000, 1])
        self.assertEqual(last(*laid, ("lift", 0), ("lift", 1), ("all",)), [1000])
        self.assertEqual(last(*ones(3, 100, 50), ("row", 0, 1, 2), ("all",)), [100])
        self.assertEqual(last(*ones(3, 100, 50), ("row", 2, 0), ("all",)), [50, 0, 2])


class SplicesTest(unittest.TestCase):
    def test_how_many_then_these(self):
        self.assertEqual(last(*ones(1), ("splices", 0)), [1, 0])
        self.assertEqual(last(*of_three_and_two(), ("splices", 0)), [3, 0, 400, 800])
        self.assertEqual(last(*of_three_and_two(), ("splices", 1)), [2, 0, 500])
        self.assertEqual(last(*OF_TEN, ("splices", 0)), [10, *range(0, 1500, 150)])

    def test_from_0_on_however_it_is_laid(self):
        for call in (("lay", 0, 700), ("lay", 0, 0), ("row", 0)):
            self.assertEqual(last(*of_three_and_two(), call, ("splices", 0)), [3, 0, 400, 800])
        self.assertEqual(
            last(*of_three_and_two(), ("lay", 0, 700), ("lift", 0), ("splices", 0)), [3, 0, 400, 800],
        )

    def test_where_a_piece_is_cut(self):
        for fabric, girth, short, answer in (
            (599, 1000, 50, [2, 0, 950]), (150, 551, 50, [3, 0, 250, 500]),
            (150, 550, 50, [3, 0, 250, 500]), (150, 549, 50, [3, 0, 250, 499]),
            (150, 501, 50, [3, 0, 250, 451]), (150, 400, 200, [2, 0, 200]),
        ):
            cut = [begun(girth, 0, short), ("roll", fabric, 1000), ("ply", 0, 3)]
            self.assertEqual(last(*cut, ("splices", 0)), answer, (fabric, girth, short))

    def test_as_they_are_found_by_turning(self):
        for fabric, girth in ((150, 777), (201, 1000), (333, 1201), (450, 1499)):
            cut = [begun(girth), ("roll", fabric, 1000), ("ply", 0, 3)]
            self.assertEqual(last(*cut, ("splices", 0))[1:], splices_of(fabric, girth))

    def test_no_such_ply(self):
        for number in (1, 12, BIG):
            self.assertEqual(last(*ones(1), ("splices", number)), [-2])
        self.assertEqual(last(begun(), ("splices", 0)), [-2])


class WhereTest(unittest.TestCase):
    def test_its_turn_then_the_places_in_the_splices_order(self):
        for turn, places in (
            (0, [0, 400, 800]), (1, [1, 401, 801]), (199, [199, 599, 999]), (200, [200, 600, 0]),
            (300, [300, 700, 100]), (600, [600, 0, 400]), (999, [999, 399, 799]),
        ):
            laid = [*of_three_and_two(), ("lay", 0, turn)]
            self.assertEqual(last(*laid, ("where", 0)), [turn, *places])

    def test_of_one_splice(self):
        self.assertEqual(last(*ones(1), ("lay", 0, 0), ("where", 0)), [0, 0])
        self.assertEqual(last(*ones(1), ("lay", 0, 999), ("where", 0)), [999, 999])

    def test_of_ten_splices(self):
        places = [(start + 1499) % 1500 for start in range(0, 1500, 150)]
        self.assertEqual(last(*OF_TEN, ("lay", 0, 1499), ("where", 0)), [1499, *places])

    def test_behind_a_row(self):
        laid = [*of_three_and_two(), ("row", 1, 0)]
        self.assertEqual(last(*laid, ("where", 1)), [0, 0, 500])
        self.assertEqual(last(*laid, ("where", 0)), [10, 10, 410, 810])

    def test_no_such_ply(self):
        for number in (1, BIG):
            self.assertEqual(last(*ones(1), ("where", number)), [-2])
        self.assertEqual(last(begun(), ("where", 0)), [-2])

    def test_not_laid(self):
        self.assertEqual(last(*ones(1), ("where", 0)), [-6])
        self.assertEqual(last(*ones(1), ("lay", 0, 3), ("lift", 0), ("where", 0)), [-6])
        self.assertEqual(last(*ones(2), ("lay", 0, 3), ("lay", 1, 12), ("where", 1)), [-6])
        self.assertEqual(last(*ones(3, 100, 50), ("row", 0, 1, 2), ("where", 0)), [-6])


class LookTest(unittest.TestCase):
    CUT = [
        begun(), ("roll", 600, 1000), ("roll", 240, 20000), ("ply", 1, 2000), ("ply", 0, 1), ("ply", 1, 7),
    ]

    def test_its_roll_how_wide_how_many_pieces(self):
        self.assertEqual(last(*self.CUT, ("look", 0)), [1, 2000, 3, 0])
        self.assertEqual(last(*self.CUT, ("look", 1)), [0, 1, 1, 0])
        self.assertEqual(last(*self.CUT, ("look", 2)), [1, 7, 3, 0])

    def test_its_turn_and_one(self):
        for turn in (0, 1, 500, 999):
            self.assertEqual(last(*self.CUT, ("lay", 0, turn), ("look", 0)), [1, 2000, 3, turn + 1])

    def test_of_those_that_are_not_laid_0(self):
        self.assertEqual(last(*self.CUT, ("lay", 0, 5), ("look", 1)), [0, 1, 1, 0])
        self.assertEqual(last(*self.CUT, ("lay", 0, 5), ("lay", 1, 5), ("look", 1)), [0, 1, 1, 0])
        self.assertEqual(last(*self.CUT, ("lay", 0, 5), ("lift", 0), ("look", 0)), [1, 2000, 3, 0])

    def test_no_such_ply(self):
        for number in (3, BIG):
            self.assertEqual(last(*self.CUT, ("look", number)), [-2])
        self.assertEqual(last(begun(), ("look", 0)), [-2])
        self.assertEqual(last(*self.CUT, ("ply", 0, 0), ("look", 3)), [-2])


class AtTest(unittest.TestCase):
    def test_none_is_laid(self):
        for n in (0, 500, BIG):
            self.assertEqual(last(begun(), ("at", 0, n)), [0])
            self.assertEqual(last(*ones(2), ("at", 999, n)), [0])

    def test_place_is_to_be_below_round(self):
        for place in (1000, 1001, BIG):
            for n in (0, BIG):
                self.assertEqual(last(*ones(1), ("lay", 0, 0), ("at", place, n)), [-22])
        self.assertEqual(last(begun(), ("at", 1000, 0)), [-22])

    def test_just_as_far_and_one_less(self):
        for turn, place, far in (
            (400, 450, 50), (400, 350, 50), (400, 401, 1), (990, 5, 15), (5, 990, 15), (0, 999, 1),
            (999, 0, 1), (0, 500, 500), (500, 0, 500), (0, 501, 499), (0, 499, 499), (250, 750, 500),
        ):
            laid = [*ones(1), ("lay", 0, turn)]
            self.assertEqual(last(*laid, ("at", place, far)), [1, 0], (turn, place))
            self.assertEqual(last(*laid, ("at", place, far - 1)), [0], (turn, place))
            self.assertEqual(last(*laid, ("at", place, far + 1)), [1, 0], (turn, place))

    def test_an_n_of_0(self):
        laid = [*of_three_and_two(), ("lay", 0, 300)]
        for place, answer in (
            (300, [1, 0]), (700, [1, 0]), (100, [1, 0]), (0, [0]), (99, [0]), (101, [0]), (400, [0]),
        ):
            self.assertEqual(last(*laid, ("at", place, 0)), answer, place)

    def test_half_round_of_an_odd_drum(self):
        laid = [*ones(1, 999), ("lay", 0, 0)]
        for place in (499, 500):
            self.assertEqual(last(*laid, ("at", place, 499)), [1, 0])
            self.assertEqual(last(*laid, ("at", place, 498)), [0])

    def test_half_round_reaches_all_that_are_laid(self):
        laid = [*ones(4, near=0), ("lay", 3, 999), ("lay", 0, 500), ("lay", 2, 1)]
        for place in (0, 1, 499, 999):
            for n in (500, 501, 1000, BIG):
                self.assertEqual(last(*laid, ("at", place, n)), [3, 0, 2, 3])
        self.assertEqual(last(*laid, ("at", 1, 498)), [2, 2, 3])

    def test_both_sides_of_the_beginning(self):
        laid = [*ones(3), ("lay", 2, 990), ("lay", 1, 10)]
        self.assertEqual(last(*laid, ("at", 0, 10)), [2, 1, 2])
        self.assertEqual(last(*laid, ("at", 0, 9)), [0])
        self.assertEqual(last(*laid, ("at", 999, 9)), [1, 2])
        self.assertEqual(last(*laid, ("at", 999, 11)), [2, 1, 2])
        self.assertEqual(last(*laid, ("at", 1, 9)), [1, 1])

    def test_each_ply_is_told_once(self):
        # 0, 400, 800 by 300 are at 300, 700, 100; 0 and 500 stay.
        laid = [*of_three_and_two(), ("lay", 0, 300), ("lay", 1, 0)]
        for place, n, answer in (
            (200, 99, [0]), (200, 100, [1, 0]), (200, 200, [2, 0, 1]), (250, 250, [2, 0, 1]),
            (500, 199, [1, 1]), (500, 200, [2, 0, 1]),
        ):
            self.assertEqual(last(*laid, ("at", place, n)), answer, (place, n))

    def test_only_those_that_are_laid(self):
        laid = [*ones(3), ("lay", 0, 0), ("lay", 1, 20), ("lay", 2, 29), ("lift", 0)]
        self.assertEqual(last(*laid, ("at", 10, 500)), [1, 1])


if __name__ == "__main__":
    unittest.main()
