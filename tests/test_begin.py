import unittest

from helper import BIG, NAMES, TOLD, begun, last, told

GOOD = (3, 4, 5, 1000, 10, 50)


def with_one(place, value):
    return ("begin", *GOOD[:place], value, *GOOD[place + 1:])


def others():
    calls = []
    for name in NAMES[1:]:
        if name == "row":
            calls.extend([("row",), ("row", 0), ("row", 1, 1), ("row", *range(16))])
            continue
        for value in (0, 5, BIG):
            calls.append((name, *[value] * TOLD[name]))
    return calls


class BeginTest(unittest.TestCase):
    def test_answers_nothing_but_0(self):
        self.assertEqual(told(("begin", *GOOD)), [[0]])

    def test_the_least_and_the_most_are_taken(self):
        for call in (
            with_one(3, 100), with_one(3, 1500), with_one(4, 0), with_one(4, 500),
            with_one(5, 1), with_one(5, 200),
            ("begin", 4, 3, 5, 100, 0, 1), ("begin", 600, 800, 1000, 1500, 500, 200),
        ):
            self.assertEqual(told(call), [[0]], call)

    def test_out_of_range_each_alone(self):
        for call in (
            with_one(3, 99), with_one(3, 1501), with_one(3, 0), with_one(3, BIG),
            with_one(4, 501), with_one(4, BIG),
            with_one(5, 0), with_one(5, 201), with_one(5, BIG),
            with_one(0, 4), with_one(1, 3), with_one(2, 6), with_one(2, 7), with_one(2, BIG),
            ("begin", 5, 4, 3, 1000, 10, 50),
            ("begin", 0, 5, 5, 1000, 10, 50),
            ("begin", 5, 0, 5, 1000, 10, 50),
            ("begin", 0, 0, 0, 1000, 10, 50),
            ("begin", BIG, BIG, BIG, 1000, 10, 50),
        ):
            self.assertEqual(told(call), [[-22]], call)

    def test_c_just_above_1000(self):
        self.assertEqual(385 ** 2 + 924 ** 2, 1001 ** 2)
        self.assertEqual(told(("begin", 385, 924, 1001, 1000, 10, 50)), [[-22]])

    def test_all_others_wait_for_it(self):
        for call in others():
            self.assertEqual(told(call), [[-11]], call)
            self.assertEqual(told(call, ("begin", *GOOD), ("lift", 0)), [[-11], [0], [-2]], call)

    def test_a_refused_begin_ahead_changes_nothing_of_that(self):
        for call in others():
            self.assertEqual(told(with_one(3, 99), call), [[-22], [-11]], call)
            self.assertEqual(told(with_one(2, 6), call), [[-22], [-11]], call)

    def test_begins_after_refusals(self):
        self.assertEqual(
            told(("roll", 600, 10), with_one(4, 501), ("begin", *GOOD), ("roll", 600, 10)),
            [[-11], [-22], [0], [0]],
        )

    def test_beginning_again_leaves_nothing(self):
        before = [begun(), ("roll", 600, 1000), ("ply", 0, 3), ("lay", 0, 7)]
        self.assertEqual(last(*before, begun(), ("lift", 0)), [-2])
        self.assertEqual(last(*before, begun(), ("ply", 0, 3)), [-2])
        self.assertEqual(told(*before, begun(), *before[1:])[5:], [[0], [0, 1], [1]])

    def test_beginning_again_takes_what_is_told_anew(self):
        anew = [
            ("begin", 4, 3, 5, 600, 31, 60), ("roll", 200, 1000), ("ply", 0, 8), ("ply", 0, 8),
            ("lay", 0, 600), ("lay", 0, 599), ("lay", 1, 29), ("lay", 1, 30),
        ]
        self.assertEqual(
            told(begun(), ("roll", 600, 1000), *anew)[2:],
            [[0], [0], [0, 3], [1, 3], [-22], [1], [-40], [2]],
        )

    def test_a_refused_begin_leaves_all_as_it_was(self):
        before = [begun(), ("roll", 600, 10), ("ply", 0, 3), ("lay", 0, 7), ("ply", 0, 3)]
        for refused in (with_one(3, 99), with_one(4, 501), with_one(5, 0), with_one(2, 6)):
            each = told(
                *before, refused, ("lay", 1, 1000), ("lay", 1, 16), ("lay", 1, 17),
                ("near", 0, 1), ("lift", 0), ("ply", 0, 1),
            )
            self.assertEqual(each[5:], [[-22], [-22], [-40], [2], [10], [7], [-12]])


if __name__ == "__main__":
    unittest.main()
