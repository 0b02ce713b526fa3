"""Point 4: the lane of a mark."""

import unittest

from refusals import Refusals, error_of
from things import bad_integers, bad_kinds

from lanescounted.errors import BadCount, BadKind, BadMark, BadSize
from lanescounted.tables import lane_of


class Lanes(unittest.TestCase):
    def test_rest_is_what_the_mark_leaves(self):
        for size in (1, 2, 7, 30):
            for count in (1, 2, 3, 7, 29, 31):
                for mark in range(size):
                    self.assertEqual(lane_of("rest", count, mark, size), mark - mark // count * count)

    def test_rest_does_not_depend_on_the_size(self):
        self.assertEqual([lane_of("rest", 3, 5, size) for size in (6, 7, 10 ** 40)], [2, 2, 2])

    def test_ranges_cut_the_marks_in_order(self):
        self.assertEqual([lane_of("ranges", 3, mark, 9) for mark in range(9)], [0, 0, 0, 1, 1, 1, 2, 2, 2])
        self.assertEqual([lane_of("ranges", 3, mark, 10) for mark in range(10)], [0, 0, 0, 0, 1, 1, 1, 2, 2, 2])
        self.assertEqual([lane_of("ranges", 4, mark, 6) for mark in range(6)], [0, 0, 1, 2, 2, 3])

    def test_ranges_with_fewer_marks_than_lanes_leave_lanes_out(self):
        self.assertEqual([lane_of("ranges", 5, mark, 3) for mark in range(3)], [0, 1, 3])

    def test_the_last_mark_of_a_lane_and_the_first_one_of_the_next(self):
        self.assertEqual([lane_of("rest", 4, mark, 100) for mark in (3, 4, 7, 8)], [3, 0, 3, 0])
        self.assertEqual([lane_of("ranges", 4, mark, 100) for mark in (24, 25, 49, 50, 74, 75)], [0, 1, 1, 2, 2, 3])

    def test_the_first_and_the_last_mark(self):
        for kind in ("rest", "ranges"):
            self.assertEqual(lane_of(kind, 7, 0, 50), 0)
        self.assertEqual(lane_of("rest", 7, 49, 50), 0)
        self.assertEqual(lane_of("ranges", 7, 49, 50), 6)

    def test_the_least_of_all(self):
        for kind in ("rest", "ranges"):
            self.assertEqual(lane_of(kind, 1, 0, 1), 0)
            self.assertEqual(lane_of(kind, 10 ** 20, 0, 1), 0)

    def test_the_greatest_of_all(self):
        count, size = 10 ** 20, 10 ** 40
        self.assertEqual(lane_of("rest", count, size - 1, size), count - 1)
        self.assertEqual(lane_of("ranges", count, size - 1, size), count - 1)
        self.assertEqual(lane_of("rest", count, size - count, size), 0)
        self.assertEqual(lane_of("ranges", count, count - 1, size), 0)
        self.assertEqual(lane_of("ranges", count, count, size), 1)
        self.assertEqual(lane_of("ranges", count, size - count - 1, size), count - 2)
        self.assertEqual(lane_of("ranges", count, size - count, size), count - 1)

    def test_great_numbers_are_exact(self):
        self.assertEqual(lane_of("ranges", 3, 3333333333333333333333333333333333333333, 10 ** 40), 0)
        self.assertEqual(lane_of("ranges", 3, 3333333333333333333333333333333333333334, 10 ** 40), 1)
        self.assertEqual(lane_of("rest", 3, 10 ** 40 - 1, 10 ** 40), 0)
        self.assertEqual(lane_of("rest", 3, 10 ** 40 - 2, 10 ** 40), 2)

    def test_a_count_by_ranges_may_be_beyond_a_thousand(self):
        self.assertEqual(lane_of("ranges", 10 ** 3 + 1, 10 ** 6, 10 ** 6 + 1), 10 ** 3)


class Arguments(Refusals, unittest.TestCase):
    function = [lane_of]
    goods = [
        (kind, count, mark, size)
        for kind in ("rest", "ranges")
        for count, mark, size in ((1, 0, 1), (5, 7, 10), (10 ** 20, 10 ** 40 - 1, 10 ** 40))
    ]

    def wrongs(self, good):
        return [
            ("kind", BadKind, bad_kinds()),
            ("count", BadCount, bad_integers(1, 10 ** 20)),
            ("mark", BadMark, bad_integers(0, 10 ** 40)),
            ("size", BadSize, bad_integers(1, 10 ** 40)),
        ]


class MarkBelowSize(unittest.TestCase):
    def test_a_mark_that_is_not_below_the_size(self):
        for kind in ("rest", "ranges"):
            for mark, size in ((1, 1), (2, 1), (10, 10), (10 ** 40, 10 ** 40), (10 ** 40, 1)):
                self.assertIs(error_of(lane_of, (kind, 3, mark, size)), BadMark)

    def test_it_is_looked_for_last(self):
        for mark in (10 ** 40, 5):
            self.assertIs(error_of(lane_of, ("rests", 3, mark, 5)), BadKind)
            self.assertIs(error_of(lane_of, ("rest", 0, mark, 5)), BadCount)
            for size in bad_integers(1, 10 ** 40):
                self.assertIs(error_of(lane_of, ("rest", 3, mark, size)), BadSize)

    def test_a_mark_that_is_none_is_looked_for_in_its_place(self):
        for mark in (10 ** 40 + 1, -1, None, True):
            for size in (0, None, 10 ** 40 + 1):
                self.assertIs(error_of(lane_of, ("ranges", 3, mark, size)), BadMark)


if __name__ == "__main__":
    unittest.main()
