import unittest

from helper import BIG, last, of_three_and_two, ones, told


class LeastTest(unittest.TestCase):
    def test_the_first_one_is_not_turned(self):
        self.assertEqual(last(*ones(1), ("least", 0)), [0])

    def test_the_least_turn_that_may_be(self):
        self.assertEqual(last(*ones(2), ("lay", 0, 0), ("least", 1)), [10])
        self.assertEqual(last(*ones(2), ("lay", 0, 9), ("least", 1)), [19])
        self.assertEqual(last(*ones(2), ("lay", 0, 10), ("least", 1)), [0])
        self.assertEqual(last(*ones(2), ("lay", 0, 990), ("least", 1)), [0])
        self.assertEqual(last(*ones(2), ("lay", 0, 991), ("least", 1)), [1])
        self.assertEqual(last(*ones(2), ("lay", 0, 999), ("least", 1)), [9])

    def test_of_several_splices(self):
        laid = [*of_three_and_two(), ("lay", 0, 100)]
        # 0 and 500 come on 500; from 10 on they are at 10 and 510, with 100, 500, 900.
        self.assertEqual(last(*laid, ("least", 1)), [10])

    def test_no_such_ply(self):
        for number in (1, BIG):
            self.assertEqual(last(*ones(1), ("least", number)), [-2])

    def test_laid_already(self):
        self.assertEqual(last(*ones(1), ("lay", 0, 3), ("least", 0)), [-17])
        self.assertEqual(last(*ones(2, 100, 50), ("row", 0, 1), ("least", 1)), [-17])

    def test_a_drum_with_no_turn_left(self):
        self.assertEqual(last(*ones(3, 100, 50), ("row", 0, 1), ("least", 2)), [-33])
        self.assertEqual(last(*ones(3, 101, 50), ("row", 0, 1), ("least", 2)), [-33])
        self.assertEqual(last(*ones(2, 100, 51), ("lay", 0, 0), ("least", 1)), [-33])
        self.assertEqual(last(*ones(2, 100, 50), ("lay", 0, 0), ("least", 1)), [50])

    def test_the_last_turn_of_all(self):
        self.assertEqual(last(*ones(2, 100, 50), ("lay", 0, 49), ("least", 1)), [99])

    def test_a_near_of_0(self):
        self.assertEqual(last(*ones(2, near=0), ("lay", 0, 0), ("least", 1)), [0])

    def test_alone_it_is_as_near_as_round(self):
        self.assertEqual(last(*ones(1, 100, 100), ("least", 0)), [0])
        self.assertEqual(last(*ones(1, 100, 101), ("least", 0)), [-33])

    def test_changes_nothing(self):
        each = told(*ones(1), ("least", 0), ("lift", 0), ("least", 0))
        self.assertEqual(each[-3:], [[0], [-6], [0]])


class BestTest(unittest.TestCase):
    def test_half_round_from_one(self):
        self.assertEqual(last(*ones(2), ("lay", 0, 0), ("best", 1)), [500, 500])
        self.assertEqual(last(*ones(2), ("lay", 0, 700), ("best", 1)), [200, 500])

    def test_of_alike_ones_the_least(self):
        self.assertEqual(last(*ones(2, 999), ("lay", 0, 0), ("best", 1)), [499, 499])
        self.assertEqual(last(*ones(2, 999), ("lay", 0, 500), ("best", 1)), [0, 499])
        self.assertEqual(last(*ones(2, 999), ("lay", 0, 499), ("best", 1)), [0, 499])
        self.assertEqual(last(*ones(3), ("lay", 0, 0), ("lay", 1, 500), ("best", 2)), [250, 250])

    def test_the_widest_gap_lies_on_the_beginning(self):
        self.assertEqual(last(*ones(3), ("lay", 0, 200), ("lay", 1, 700), ("best", 2)), [450, 250])
        self.assertEqual(last(*ones(3), ("lay", 0, 300), ("lay", 1, 700), ("best", 2)), [0, 300])
        self.assertEqual(last(*ones(3), ("lay", 0, 300), ("lay", 1, 701), ("best", 2)), [0, 299])
        self.assertEqual(last(*ones(3), ("lay", 0, 299), ("lay", 1, 700), ("best", 2)), [0, 299])
        self.assertEqual(last(*ones(3), ("lay", 0, 290), ("lay", 1, 690), ("best", 2)), [990, 300])

    def test_of_several_splices(self):
        # 0 and 500 from 0, 400, 800: they meet by 0, 300, 400, 500, 800, 900.
        laid = [*of_three_and_two(), ("lay", 0, 0)]
        self.assertEqual(last(*laid, ("best", 1)), [150, 150])
        self.assertEqual(last(*laid, ("fits", 1, 150)), [1, 150])

    def test_no_such_ply(self):
        for number in (2, BIG):
            self.assertEqual(last(*ones(2), ("lay", 0, 0), ("best", number)), [-2])
        self.assertEqual(last(*ones(1), ("best", 1)), [-2])

    def test_no_other_one_is_laid(self):
        self.assertEqual(last(*ones(2), ("best", 0)), [-6])
        self.assertEqual(last(*ones(2), ("lay", 0, 0), ("best", 0)), [-6])
        self.assertEqual(last(*ones(2), ("row", 0, 1), ("lift", 0), ("best", 1)), [-6])

    def test_a_laid_one_is_held_against_the_others(self):
        laid = [*ones(2), ("lay", 0, 0), ("lay", 1, 10)]
        self.assertEqual(last(*laid, ("best", 1)), [500, 500])
        self.assertEqual(last(*laid, ("best", 0)), [510, 500])
        self.assertEqual(told(*laid, ("best", 1), ("lift", 1))[-1], [10])

    def test_it_need_not_be_one_that_may_be(self):
        crowded = [*ones(3, 100, 50), ("row", 0, 1)]
        self.assertEqual(last(*crowded, ("best", 2)), [25, 25])

    def test_of_as_many_splices_as_may_be(self):
        # Ten pieces of 150 on 1,500 round, twice: gaps of 1 and of 149 take turns.
        plies = [
            ("begin", 924, 43, 925, 1500, 0, 1), ("roll", 150, 1000), *[("ply", 0, 1)] * 3,
            ("lay", 0, 0), ("lay", 1, 1),
        ]
        self.assertEqual(last(*plies, ("best", 2)), [75, 74])


class FitsTest(unittest.TestCase):
    def test_alone(self):
        self.assertEqual(last(*ones(1), ("fits", 0, 999)), [1, 1000])
        self.assertEqual(last(*ones(1, 100, 100), ("fits", 0, 0)), [1, 100])
        self.assertEqual(last(*ones(1, 100, 101), ("fits", 0, 0)), [0, 100])

    def test_as_near_as_may_be_just(self):
        laid = [*ones(2), ("lay", 0, 500)]
        for turn, answer in (
            (500, [0, 0]), (501, [0, 1]), (509, [0, 9]), (510, [1, 10]), (511, [1, 11]),
            (491, [0, 9]), (490, [1, 10]), (0, [1, 500]), (1, [1, 499]), (999, [1, 499]),
        ):
            self.assertEqual(last(*laid, ("fits", 1, turn)), answer, turn)

    def test_splices_on_both_sides_of_the_beginning(self):
        laid = [*ones(2), ("lay", 0, 997)]
        for turn, answer in ((2, [0, 5]), (6, [0, 9]), (7, [1, 10]), (987, [1, 10]), (988, [0, 9])):
            self.assertEqual(last(*laid, ("fits", 1, turn)), answer, turn)

    def test_a_near_of_0(self):
        self.assertEqual(last(*ones(2, near=0), ("lay", 0, 5), ("fits", 1, 5)), [1, 0])

    def test_no_such_ply(self):
        for number in (1, BIG):
            self.assertEqual(last(*ones(1), ("fits", number, 0)), [-2])
        self.assertEqual(last(*ones(1), ("fits", 1, 1000)), [-2])

    def test_turn_is_to_be_below_round(self):
        for turn in (1000, BIG):
            self.assertEqual(last(*ones(1), ("fits", 0, turn)), [-22])

    def test_a_laid_one_is_held_against_the_others(self):
        laid = [*ones(2), ("lay", 0, 0), ("lay", 1, 100)]
        self.assertEqual(last(*laid, ("fits", 1, 100)), [1, 100])
        self.assertEqual(last(*laid, ("fits", 1, 105)), [1, 105])
        self.assertEqual(last(*laid, ("fits", 1, 5)), [0, 5])
        self.assertEqual(told(*laid, ("fits", 1, 105), ("lift", 1))[-1], [100])

    def test_only_those_that_are_laid_count(self):
        laid = [*ones(3), ("lay", 0, 0), ("lay", 1, 100), ("lift", 1)]
        self.assertEqual(last(*laid, ("fits", 2, 100)), [1, 100])


class NearTest(unittest.TestCase):
    def test_from_either_side(self):
        laid = [*ones(2), ("lay", 0, 10), ("lay", 1, 300)]
        self.assertEqual(last(*laid, ("near", 0, 1)), [290])
        self.assertEqual(last(*laid, ("near", 1, 0)), [290])

    def test_the_shorter_way_round(self):
        for turn, answer in ((499, 499), (500, 500), (501, 499), (999, 1), (0, 0)):
            laid = [*ones(2, near=0), ("lay", 0, 0), ("lay", 1, turn)]
            self.assertEqual(last(*laid, ("near", 0, 1)), [answer])
            self.assertEqual(last(*laid, ("near", 1, 0)), [answer])
        self.assertEqual(last(*ones(2, 999), ("lay", 0, 0), ("lay", 1, 500), ("near", 0, 1)), [499])

    def test_the_nearest_of_several_splices(self):
        # 0, 400, 800 by 120 are at 120, 520, 920; 0, 500 by 0 stay.
        laid = [*of_three_and_two(), ("lay", 0, 120), ("lay", 1, 0)]
        self.assertEqual(last(*laid, ("near", 0, 1)), [20])
        self.assertEqual(last(*laid, ("near", 1, 0)), [20])

    def test_a_third_one_does_not_count(self):
        laid = [*ones(3), ("lay", 0, 0), ("lay", 1, 400), ("lay", 2, 200)]
        self.assertEqual(last(*laid, ("near", 0, 1)), [400])

    def test_no_such_ply(self):
        laid = [*ones(2), ("lay", 0, 0), ("lay", 1, 100)]
        for pair in ((0, 2), (2, 0), (2, 2), (BIG, BIG), (3, 2)):
            self.assertEqual(last(*laid, ("near", *pair)), [-2], pair)
        self.assertEqual(last(*ones(1), ("near", 0, 1)), [-2])

    def test_the_same(self):
        self.assertEqual(last(*ones(1), ("lay", 0, 0), ("near", 0, 0)), [-22])
        self.assertEqual(last(*ones(1), ("near", 0, 0)), [-22])

    def test_one_is_not_laid(self):
        self.assertEqual(last(*ones(2), ("lay", 0, 0), ("near", 0, 1)), [-6])
        self.assertEqual(last(*ones(2), ("lay", 0, 0), ("near", 1, 0)), [-6])
        self.assertEqual(last(*ones(2), ("near", 0, 1)), [-6])


if __name__ == "__main__":
    unittest.main()
