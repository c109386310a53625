import unittest

from helper import BIG, begun, last, ones, told


class LayTest(unittest.TestCase):
    def test_answers_how_many_are_laid(self):
        each = told(*ones(3), ("lay", 2, 0), ("lay", 0, 100), ("lay", 1, 899))
        self.assertEqual(each[-3:], [[1], [2], [3]])

    def test_it_is_laid_with_that_turn(self):
        for turn in (0, 1, 500, 999):
            self.assertEqual(last(*ones(1), ("lay", 0, turn), ("lift", 0)), [turn])

    def test_no_such_ply(self):
        for number in (1, 12, BIG):
            self.assertEqual(last(*ones(1), ("lay", number, 0)), [-2])

    def test_turn_is_to_be_below_round(self):
        for turn in (1000, 1001, BIG):
            each = told(*ones(1), ("lay", 0, turn), ("lift", 0))
            self.assertEqual(each[-2:], [[-22], [-6]])

    def test_laid_already(self):
        each = told(*ones(1), ("lay", 0, 5), ("lay", 0, 6), ("lay", 0, 5), ("lift", 0))
        self.assertEqual(each[-3:], [[-17], [-17], [5]])

    def test_as_near_as_may_be_just(self):
        laid = [*ones(2), ("lay", 0, 500)]
        for turn, answer in ((509, -40), (510, 2), (490, 2), (491, -40), (500, -40)):
            self.assertEqual(last(*laid, ("lay", 1, turn)), [answer], turn)

    def test_too_near_leaves_it_not_laid(self):
        each = told(*ones(2), ("lay", 0, 500), ("lay", 1, 509), ("lift", 1), ("lay", 1, 510))
        self.assertEqual(each[-3:], [[-40], [-6], [2]])

    def test_splices_on_both_sides_of_the_beginning(self):
        laid = [*ones(2), ("lay", 0, 995)]
        for turn, answer in ((4, -40), (5, 2), (985, 2), (986, -40), (0, -40)):
            self.assertEqual(last(*laid, ("lay", 1, turn)), [answer], turn)

    def test_splices_turned_past_the_beginning(self):
        # Splices at 0, 400 and 800 with 300 are at 300, 700 and 100.
        laid = [begun(), ("roll", 240, 1000), ("roll", 600, 1000), ("ply", 0, 3), ("ply", 1, 3)]
        for place in (100, 300, 700):
            for turn, answer in ((place - 10, 2), (place - 9, -40), (place + 9, -40), (place + 10, 2)):
                self.assertEqual(last(*laid, ("lay", 0, 300), ("lay", 1, turn)), [answer], turn)

    def test_all_that_are_laid_count_and_no_other(self):
        laid = [*ones(4), ("lay", 0, 100), ("lay", 1, 200), ("lay", 2, 300), ("lift", 1)]
        for turn, answer in ((100, -40), (200, 3), (300, -40), (0, 3)):
            self.assertEqual(last(*laid, ("lay", 3, turn)), [answer])

    def test_a_near_of_0(self):
        each = told(*ones(3, near=0), ("lay", 0, 7), ("lay", 1, 7), ("lay", 2, 7))
        self.assertEqual(each[-3:], [[1], [2], [3]])

    def test_half_round(self):
        for girth, near, turn, answer in (
            (1000, 500, 500, 2), (1000, 500, 499, -40), (1000, 500, 501, -40),
            (999, 499, 499, 2), (999, 499, 500, 2), (999, 500, 499, -40), (999, 500, 500, -40),
        ):
            calls = [*ones(2, girth, near), ("lay", 0, 0), ("lay", 1, turn)]
            self.assertEqual(last(*calls), [answer], (girth, near, turn))

    def test_alone_it_is_as_near_as_round(self):
        self.assertEqual(last(*ones(1, 100, 100), ("lay", 0, 99)), [1])
        self.assertEqual(last(*ones(1, 100, 101), ("lay", 0, 99)), [-40])

    def test_which_refusal_is_told_first(self):
        laid = [*ones(2), ("lay", 0, 5)]
        self.assertEqual(last(*laid, ("lay", 2, 1000)), [-2])
        self.assertEqual(last(*laid, ("lay", 0, 1000)), [-22])
        self.assertEqual(last(*laid, ("lay", 1, 1000)), [-22])
        # Were it not for the first one, it would be too near.
        self.assertEqual(last(*ones(2, 100, 50), ("lay", 0, 5), ("lay", 0, 5)), [-17])
        crowded = [*ones(2, 100, 50), ("lay", 0, 5), ("lay", 1, 55)]
        self.assertEqual(last(*crowded, ("lay", 1, 6)), [-17])


class LiftTest(unittest.TestCase):
    def test_answers_its_turn_once(self):
        each = told(*ones(2), ("lay", 1, 999), ("lay", 0, 20), ("lift", 1), ("lift", 1), ("lift", 0))
        self.assertEqual(each[-3:], [[999], [-6], [20]])

    def test_no_such_ply(self):
        for number in (1, BIG):
            self.assertEqual(last(*ones(1), ("lift", number)), [-2])

    def test_not_laid(self):
        self.assertEqual(last(*ones(1), ("lift", 0)), [-6])

    def test_a_refused_lift_leaves_the_others(self):
        each = told(*ones(2), ("lay", 0, 5), ("lift", 1), ("lift", 2), ("lay", 1, 5), ("lay", 1, 15))
        self.assertEqual(each[-4:], [[-6], [-2], [-40], [2]])

    def test_it_may_be_laid_again(self):
        each = told(*ones(1), ("lay", 0, 5), ("lift", 0), ("lay", 0, 6), ("lift", 0))
        self.assertEqual(each[-2:], [[1], [6]])


class RowTest(unittest.TestCase):
    def test_answers_how_many_and_their_turns_in_this_order(self):
        each = told(*ones(3), ("row", 2, 0, 1), ("lift", 0), ("lift", 1), ("lift", 2))
        self.assertEqual(each[-4:], [[3, 0, 10, 20], [10], [20], [0]])

    def test_of_none(self):
        self.assertEqual(last(*ones(1), ("row",)), [0])
        self.assertEqual(last(begun(), ("row",)), [0])

    def test_of_one(self):
        self.assertEqual(last(*ones(2), ("lay", 0, 0), ("row", 1)), [1, 10])

    def test_of_twelve(self):
        self.assertEqual(last(*ones(12), ("row", *range(12))), [12, *range(0, 120, 10)])

    def test_each_takes_a_gap_that_is_just_wide_enough(self):
        laid = [*ones(5), ("lay", 0, 0), ("lay", 1, 20), ("lay", 2, 39)]
        self.assertEqual(last(*laid, ("row", 4, 3)), [2, 10, 49])

    def test_counts_its_own_not_the_laid_ones(self):
        self.assertEqual(last(*ones(3), ("lay", 0, 500), ("row", 1, 2)), [2, 0, 10])

    def test_with_several_splices(self):
        # Splices at 0, 400, 800 and at 0, 500.
        plies = [begun(), ("roll", 240, 1000), ("roll", 300, 1000), ("ply", 0, 3), ("ply", 1, 3)]
        self.assertEqual(last(*plies, ("row", 0, 1)), [2, 0, 10])
        self.assertEqual(last(*plies, ("lay", 0, 90), ("row", 1)), [1, 0])
        self.assertEqual(last(*plies, ("lay", 0, 100), ("row", 1)), [1, 10])

    def test_a_near_of_0(self):
        self.assertEqual(last(*ones(3, near=0), ("row", 0, 1, 2)), [3, 0, 0, 0])

    def test_one_is_told_twice(self):
        for plies in ((0, 0), (0, 1, 0), (1, 0, 0)):
            each = told(*ones(2), ("row", *plies), ("lift", 0), ("lift", 1))
            self.assertEqual(each[-3:], [[-22], [-6], [-6]])

    def test_no_such_ply(self):
        for plies in ((2,), (0, 2), (BIG, 0), (0, 1, 12)):
            each = told(*ones(2), ("row", *plies), ("lift", 0), ("lift", 1))
            self.assertEqual(each[-3:], [[-2], [-6], [-6]])

    def test_of_sixteen(self):
        self.assertEqual(last(*ones(12), ("row", *range(16))), [-2])

    def test_one_is_laid(self):
        for plies in ((0,), (1, 0), (0, 1)):
            each = told(*ones(2), ("lay", 0, 77), ("row", *plies), ("lift", 1), ("lift", 0))
            self.assertEqual(each[-3:], [[-17], [-6], [77]])

    def test_one_can_not_be(self):
        # Three with 50 between them don't go on 100 round.
        for plies in ((0, 1, 2), (2, 1, 0)):
            each = told(*ones(3, 100, 50), ("row", *plies), ("lift", 0), ("lift", 1), ("lift", 2))
            self.assertEqual(each[-4:], [[-33], [-6], [-6], [-6]])

    def test_a_row_that_fails_leaves_those_that_were_laid(self):
        laid = [*ones(4, 100, 30), ("lay", 2, 99)]
        each = told(
            *laid, ("row", 0, 1, 3), ("fits", 0, 29), ("lift", 0), ("lift", 1), ("lift", 3),
            ("row", 1, 0), ("lift", 2),
        )
        self.assertEqual(each[-7:], [[-33], [1, 30], [-6], [-6], [-6], [2, 29, 59], [99]])

    def test_a_row_of_one_with_no_turn_left(self):
        self.assertEqual(last(*ones(3, 100, 50), ("row", 0, 1), ("row", 2)), [-33])

    def test_alone_it_is_as_near_as_round(self):
        self.assertEqual(last(*ones(1, 100, 101), ("row", 0)), [-33])
        self.assertEqual(last(*ones(1, 100, 100), ("row", 0)), [1, 0])

    def test_which_refusal_is_told_first(self):
        laid = [*ones(4, 100, 50), ("lay", 0, 0), ("lay", 1, 50)]
        self.assertEqual(last(*laid, ("row", 9, 9)), [-22])
        self.assertEqual(last(*laid, ("row", 0, 9, 0)), [-22])
        self.assertEqual(last(*laid, ("row", 2, 9, 2)), [-22])
        self.assertEqual(last(*laid, ("row", 0, 9)), [-2])
        self.assertEqual(last(*laid, ("row", 2, 9)), [-2])
        self.assertEqual(last(*laid, ("row", 2, 0)), [-17])
        self.assertEqual(last(*laid, ("row", 2, 3)), [-33])


if __name__ == "__main__":
    unittest.main()
