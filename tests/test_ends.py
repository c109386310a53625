import unittest

from helper import BIG, last, told

# Ten pieces a ply: as many splices as plies can have.
CUT = [("roll", 150, 1000000), *[("ply", 0, 3)] * 12]
PLIES = range(12)


def widest(near):
    return [("begin", 924, 43, 925, 1500, near, 1), *CUT]


def filled(start, call):
    return [*start, *[call] * (400 - len(start))]


class EndsTest(unittest.TestCase):
    """.ci/run stops a file that doesn't end."""

    def test_rows_that_fail_at_the_last_ply(self):
        # Eleven plies 13 from each other leave no turn on 150 that would do for a twelfth.
        each = told(*filled(widest(13), ("row", *PLIES)))
        self.assertEqual(each[13], [11, 10])
        self.assertEqual(each[14:], [[-33]] * 386)

    def test_rows_that_are_laid_and_lifted(self):
        start = widest(12)
        on_and_off = [("row", *PLIES), *[("lift", ply) for ply in PLIES]]
        each = told(*start, *on_and_off * 29)
        self.assertEqual(each[len(start)::13], [[12, *range(0, 144, 12)]] * 29)

    def test_asking_again_and_again(self):
        laid = [*widest(12), ("row", *range(11))]
        for call, answer in (
            (("best", 11), [135, 15]), (("best", 0), [141, 21]), (("least", 11), [132]),
            (("fits", 11, 1499), [0, 1]), (("near", 0, 10), [30]), (("lay", 11, 140), [-40]),
            (("row", 11, 0), [-17]),
        ):
            each = told(*filled(laid, call))
            self.assertEqual(len(each), 400)
            self.assertEqual(each[15:], [answer] * 385, call)

    def test_telling_again_and_again(self):
        laid = [*widest(12), ("row", *PLIES)]
        starts = range(0, 1500, 150)
        for call, answer in (
            (("all",), [12, *PLIES]), (("splices", 11), [10, *starts]),
            (("where", 11), [132, *[start + 132 for start in starts]]),
            (("most", 0, 1), [49976, 20]), (("piece", 150), [150, 10, 150]), (("piece", 1), [1, 1500, 1]),
            (("look", 11), [0, 3, 10, 133]), (("rest", 0), [999520, 150, 1000000]),
            (("at", 5, 6), [1, 0]), (("at", 1499, BIG), [12, *PLIES]),
            (("sums",), [0, 1000000, 999520, 480]), (("state",), [12, 1, 12, 1500, 12, 1]),
        ):
            each = told(*filled(laid, call))
            self.assertEqual(len(each), 400)
            self.assertEqual(each[15:], [answer] * 385, call)

    def test_the_longest_list(self):
        self.assertEqual(told(*[("row", *range(16))] * 400), [[-11]] * 400)
        self.assertEqual(last(*widest(0), *[("row", *range(16))] * 387), [-2])


if __name__ == "__main__":
    unittest.main()
