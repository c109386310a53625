import unittest

from biasplies.drum import answers
from helper import BIG, begun, encoded, last, told

BEGIN = [0, 3, 4, 5, 1000, 10, 50]
SETUP = [begun(), ("roll", 240, 1000), ("roll", 600, 1000), ("ply", 0, 3), ("ply", 1, 3)]


class FormTest(unittest.TestCase):
    def test_each_call_by_its_number(self):
        for calls, given in (
            ([], [1, 0]),
            ([1, 600, 100], [1, 0, 1, 0]),
            ([1, 300, 100, 2, 0, 3], [1, 0, 1, 0, 2, 0, 2]),
            ([1, 600, 100, 2, 0, 3, 3, 0, 7], [1, 0, 1, 0, 2, 0, 1, 1, 1]),
            ([1, 600, 100, 2, 0, 3, 3, 0, 7, 4, 0], [1, 0, 1, 0, 2, 0, 1, 1, 1, 1, 7]),
            ([5, 0], [1, 0, 1, 0]),
            ([1, 600, 100, 2, 0, 3, 2, 0, 3, 5, 2, 1, 0], [1, 0, 1, 0, 2, 0, 1, 2, 1, 1, 3, 2, 0, 10]),
            ([1, 600, 100, 2, 0, 3, 6, 0], [1, 0, 1, 0, 2, 0, 1, 1, 0]),
            (
                [1, 600, 100, 2, 0, 3, 2, 0, 3, 3, 0, 7, 7, 1],
                [1, 0, 1, 0, 2, 0, 1, 2, 1, 1, 1, 1, 2, 507, 500],
            ),
            ([1, 600, 100, 2, 0, 3, 8, 0, 7], [1, 0, 1, 0, 2, 0, 1, 2, 1, 1000]),
            (
                [1, 600, 100, 2, 0, 3, 2, 0, 3, 3, 0, 7, 3, 1, 27, 9, 0, 1],
                [1, 0, 1, 0, 2, 0, 1, 2, 1, 1, 1, 1, 1, 2, 1, 20],
            ),
            ([10], [1, 0, 1, 1000]),
            (
                [1, 600, 100, 2, 0, 3, 2, 0, 3, 3, 1, 0, 3, 0, 20, 10],
                [1, 0, 1, 0, 2, 0, 1, 2, 1, 1, 1, 1, 1, 2, 3, 20, 0, 1],
            ),
            ([1, 300, 100, 2, 0, 3, 11, 0], [1, 0, 1, 0, 2, 0, 2, 3, 2, 0, 500]),
            ([1, 300, 100, 2, 0, 3, 3, 0, 600, 12, 0], [1, 0, 1, 0, 2, 0, 2, 1, 1, 3, 600, 600, 100]),
            ([1, 300, 100, 13, 0, 3], [1, 0, 1, 0, 2, 10, 10]),
            ([14, 300], [1, 0, 3, 500, 2, 500]),
            ([1, 300, 100, 2, 0, 3, 15, 0], [1, 0, 1, 0, 2, 0, 2, 4, 0, 3, 2, 0]),
            ([1, 300, 100, 16, 0], [1, 0, 1, 0, 3, 100, 300, 100]),
            ([17, 5, 5], [1, 0, 1, 0]),
            ([1, 600, 100, 2, 0, 3, 3, 0, 0, 17, 5, 5], [1, 0, 1, 0, 2, 0, 1, 1, 1, 2, 1, 0]),
            ([18], [1, 0, 4, 0, 0, 0, 0]),
            ([19], [1, 0, 6, 0, 0, 0, 1000, 10, 50]),
        ):
            self.assertEqual(answers(BEGIN + calls), given, calls)

    def test_how_many_numbers_each_call_answers(self):
        each = told(
            *SETUP, ("lay", 0, 0), ("least", 1), ("best", 1), ("fits", 1, 0), ("fits", 1, 9),
            ("row", 1), ("near", 0, 1), ("lift", 0), ("lift", 1), ("row", 0, 1),
        )
        self.assertEqual([len(answer) for answer in each], [1, 1, 1, 2, 2, 1, 1, 2, 2, 2, 2, 1, 1, 1, 3])
        for turns in ((), (0,), (0, 1)):
            each = told(
                *SETUP, ("row", *turns), ("all",), ("splices", 0), ("splices", 1), ("most", 0, 3),
                ("piece", 150), ("look", 0), ("rest", 0), ("at", 0, BIG), ("sums",), ("state",),
            )[len(SETUP) + 1:]
            laid = len(turns)
            self.assertEqual([len(answer) for answer in each], [1 + laid, 4, 2, 2, 3, 4, 3, 1 + laid, 4, 6])
        each = told(*SETUP, ("row", 0, 1), ("where", 0), ("where", 1))
        self.assertEqual([len(answer) for answer in each[-2:]], [4, 2])

    def test_a_refusal_is_one_number_alone(self):
        for call, refusal in (
            (("begin", 0, 0, 0, 0, 0, 0), -22), (("roll", 0, 0), -22), (("ply", 9, 9), -2),
            (("lay", 9, 9), -2), (("lift", 0), -6), (("row", 1, 1), -22), (("least", 9), -2),
            (("best", 0), -6), (("fits", 0, 1000), -22), (("near", 0, 1), -6), (("splices", 2), -2),
            (("where", 2), -2), (("where", 0), -6), (("most", 2, 0), -2), (("most", 0, 0), -22),
            (("piece", 0), -22), (("piece", 1), -33), (("look", 2), -2), (("rest", 2), -2),
            (("at", 1000, 0), -22),
        ):
            given = answers(encoded([*SETUP, call]))
            self.assertEqual(given[-2:], [1, refusal], call)
            self.assertEqual(len(given), len(answers(encoded(SETUP))) + 2, call)

    def test_whole_numbers_in_a_list(self):
        given = answers(encoded([
            *SETUP, ("row", 0, 1), ("fits", 0, 0), ("fits", 0, 19), ("best", 0), ("near", 0, 1),
            ("lift", 0), ("least", 0), ("lift", 0), ("all",), ("splices", 0), ("where", 0), ("where", 1),
            ("most", 0, 1), ("piece", 7), ("piece", 150), ("look", 0), ("look", 1), ("rest", 0),
            ("at", 0, 500), ("at", 1000, 0), ("sums",), ("state",),
        ]))
        self.assertIs(list, given.__class__)
        self.assertEqual({int}, {number.__class__ for number in given})

    def test_what_is_handed_in_stays_as_it_was(self):
        calls = encoded([
            *SETUP, ("row", 1, 0), ("row", 1, 1), ("row", 7), ("row",), ("lift", 1), ("row", 1),
            ("lay", 0, 5), ("best", 0), ("fits", 0, 3), ("near", 0, 1), ("all",), ("splices", 0), ("where", 0),
            ("most", 0, 1), ("piece", 150), ("look", 0), ("rest", 0), ("at", 0, BIG), ("sums",), ("state",),
            ("where", 7), ("most", 0, 0), ("piece", 0), begun(),
        ])
        before = list(calls)
        answers(calls)
        self.assertEqual(calls, before)

    def test_what_is_given_back_is_the_callers_own(self):
        calls = encoded([*SETUP, ("row", 1, 0), ("splices", 0), ("where", 0), ("all",), ("at", 0, 500)])
        first = answers(calls)
        kept = list(first)
        first.clear()
        self.assertEqual(answers(calls), kept)

    def test_one_line_keeps_nothing_for_the_next(self):
        line = [*SETUP, ("row", 0, 1), ("lift", 0), ("all",), ("rest", 0), ("sums",), ("state",)]
        first = told(*line)
        self.assertEqual(told(("all",), ("sums",), ("state",)), [[-11], [-11], [-11]])
        self.assertEqual(
            told(begun(), ("all",), ("rest", 0), ("sums",), ("state",)),
            [[0], [1000], [-2], [0, 0, 0, 0], [0, 0, 0, 1000, 10, 50]],
        )
        self.assertEqual(told(("lift", 1)), [[-11]])
        self.assertEqual(told(begun(), ("lift", 1), ("ply", 0, 3)), [[0], [-2], [-2]])
        self.assertEqual(told(*line), first)

    def test_rows_of_each_length_are_stepped_over(self):
        for count in range(17):
            plies = range(count)
            self.assertEqual(told(("row", *plies), begun(), ("row", *plies), ("lift", 0)), [
                [-11], [0], [-2] if count else [0], [-2],
            ])

    def test_the_greatest_numbers(self):
        for call, refusal in (
            (("begin", *[BIG] * 6), -22), (("roll", BIG, BIG), -22), (("ply", BIG, BIG), -2),
            (("lay", BIG, BIG), -2), (("lift", BIG), -2), (("row", BIG), -2), (("least", BIG), -2),
            (("best", BIG), -2), (("fits", BIG, BIG), -2), (("near", BIG, BIG), -2), (("splices", BIG), -2),
            (("where", BIG), -2), (("most", BIG, BIG), -2), (("piece", BIG), -22), (("look", BIG), -2),
            (("rest", BIG), -2), (("at", BIG, BIG), -22),
        ):
            self.assertEqual(last(*SETUP, call), [refusal])


class UnchangedTest(unittest.TestCase):
    """A refused call, or one that only asks, leaves the object as it was."""

    BEFORE = [
        begun(100, 30, 40), ("roll", 600, 20), ("roll", 150, 6), *[("ply", 0, 3)] * 3,
        ("lay", 1, 10), ("lay", 0, 60),
    ]
    AFTER = [
        ("least", 2), ("best", 2), ("fits", 2, 85), ("near", 0, 1), ("ply", 0, 3), ("ply", 0, 1),
        ("ply", 1, 3), ("ply", 1, 1), ("roll", 150, 1), ("lift", 2), ("lift", 0), ("lift", 1),
        ("row", 2, 0, 1), ("lay", 2, 100),
        ("all",), ("splices", 2), ("where", 0), ("most", 0, 1), ("look", 1), ("rest", 0), ("at", 30, 30),
        ("sums",), ("state",),
    ]
    BETWEEN = [
        (("begin", 3, 4, 5, 99, 0, 1), [-22]), (("begin", 0, 5, 5, 1000, 0, 1), [-22]),
        (("roll", 149, 1), [-22]), (("roll", 150, 0), [-22]),
        (("ply", 2, 3), [-2]), (("ply", 0, 0), [-22]), (("ply", 0, 4), [-12]),
        (("lay", 3, 0), [-2]), (("lay", 2, 100), [-22]), (("lay", 0, 85), [-17]), (("lay", 2, 36), [-40]),
        (("lift", 3), [-2]), (("lift", 2), [-6]),
        (("row", 2, 2), [-22]), (("row", 2, 3), [-2]), (("row", 2, 0), [-17]), (("row", 2), [-33]),
        (("least", 3), [-2]), (("least", 0), [-17]), (("least", 2), [-33]),
        (("best", 3), [-2]), (("best", 2), [35, 25]), (("best", 0), [60, 50]),
        (("fits", 3, 0), [-2]), (("fits", 2, 100), [-22]), (("fits", 2, 85), [0, 25]),
        (("fits", 0, 50), [1, 40]),
        (("near", 0, 3), [-2]), (("near", 0, 0), [-22]), (("near", 0, 2), [-6]), (("near", 0, 1), [50]),
        (("all",), [50, 0, 1]), (("splices", 3), [-2]), (("splices", 2), [1, 0]),
        (("where", 3), [-2]), (("where", 2), [-6]), (("where", 0), [60, 60]),
        (("most", 2, 3), [-2]), (("most", 0, 0), [-22]), (("most", 0, 3), [1, 5]), (("most", 1, 4), [0, 7]),
        (("piece", 0), [-22]), (("piece", 20), [-33]), (("piece", 60), [100, 1, 100]),
        (("look", 3), [-2]), (("look", 0), [0, 3, 1, 61]), (("look", 2), [0, 3, 1, 0]),
        (("rest", 2), [-2]), (("rest", 0), [5, 600, 20]), (("rest", 1), [6, 150, 6]),
        (("at", 100, 0), [-22]), (("at", 60, 0), [1, 0]), (("at", 35, 25), [2, 0, 1]),
        (("sums",), [0, 26, 11, 15]), (("state",), [2, 2, 3, 100, 30, 40]),
    ]

    def test_each_alone(self):
        count = len(self.BEFORE)
        as_it_was = told(*self.BEFORE, *self.AFTER)[count:]
        for call, answer in self.BETWEEN:
            each = told(*self.BEFORE, call, *self.AFTER)
            self.assertEqual(each[count], answer, call)
            self.assertEqual(each[count + 1:], as_it_was, call)

    def test_all_together(self):
        count = len(self.BEFORE)
        as_it_was = told(*self.BEFORE, *self.AFTER)[count:]
        between = [call for call, answer in self.BETWEEN]
        each = told(*self.BEFORE, *between, *self.AFTER)
        self.assertEqual(each[count:count + len(between)], [answer for call, answer in self.BETWEEN])
        self.assertEqual(each[count + len(between):], as_it_was)

    def test_too_many_and_no_such_ply(self):
        rolls = [begun(300, 10, 200), *[("roll", 180, 30)] * 9, ("roll", 150, 1000)]
        self.assertEqual(last(*rolls, ("roll", 150, 1), ("ply", 9, 3), ("ply", 10, 3)), [-2])
        full = [*rolls, *[("ply", 0, 3)] * 6, *[("ply", 1, 3)] * 6]
        after = [("row", *range(12)), ("lift", 11), ("lift", 12), ("ply", 2, 3)]
        as_it_was = told(*full, *after)[-4:]
        each = told(*full, ("roll", 150, 1), ("ply", 9, 3), ("ply", 2, 3), *after)
        self.assertEqual(each[-7:-4], [[-28], [-28], [-28]])
        self.assertEqual(each[-4:], as_it_was)


if __name__ == "__main__":
    unittest.main()
