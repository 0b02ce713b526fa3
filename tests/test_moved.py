"""Point 5: the marks that have unlike lanes by two counts."""

import unittest

from refusals import Refusals, error_of
from things import bad_integers, bad_kinds

from lanescounted.errors import BadCount, BadKind, BadSize
from lanescounted.tables import count_moved, first_moved

GREAT = 10 ** 20


def lane(kind, count, mark, size):
    """Return the lane by the words of point 4."""
    return mark % count if kind == "rest" else mark * count // size


def moved_marks(kind, before, after, size):
    """Return all marks that have unlike lanes, gone through one by one."""
    return [mark for mark in range(size) if lane(kind, before, mark, size) != lane(kind, after, mark, size)]


def lane_starts(count, size):
    """Return the first mark of each lane by ranges, each one looked for by halving."""
    starts = []
    for number in range(count):
        low, high = 0, size
        while low < high:
            middle = (low + high) // 2
            if lane("ranges", count, middle, size) < number:
                low = middle + 1
            else:
                high = middle
        starts.append(low)
    return starts


def moved_parts(kind, starts, before, after, size):
    """Return (start, end) of all parts of the marks that move, if lanes change alike between all starts."""
    edges = sorted(set(starts + [size]))
    return [
        (start, end) for start, end in zip(edges, edges[1:])
        if lane(kind, before, start, size) != lane(kind, after, start, size)
    ]


class Tried(unittest.TestCase):
    def check(self, kind, before, after, size):
        moved = moved_marks(kind, before, after, size)
        told = (kind, before, after, size)
        self.assertEqual(count_moved(*told), len(moved), told)
        self.assertEqual(first_moved(*told), moved[0] if moved else None, told)

    def test_mark_by_mark(self):
        for kind in ("rest", "ranges"):
            for before in range(1, 10):
                for after in range(1, 10):
                    for size in list(range(1, 25)) + [71, 72, 73, 144, 150]:
                        self.check(kind, before, after, size)

    def test_greater_counts_than_marks(self):
        for kind in ("rest", "ranges"):
            for before in (1, 2, 17, 40, 999, 1000):
                for after in (1, 3, 16, 41, 999, 1000):
                    for size in (1, 2, 15, 16, 17, 40, 41, 60):
                        self.check(kind, before, after, size)

    def test_sizes_at_the_counts_and_at_their_period(self):
        for kind in ("rest", "ranges"):
            for before, after in ((30, 42), (42, 30), (12, 36), (25, 26)):
                for size in (24, 25, 26, 29, 30, 31, 41, 42, 43, 209, 210, 211, 215, 240, 241, 650, 675, 676):
                    self.check(kind, before, after, size)


class Rest(unittest.TestCase):
    def test_counts_alike_move_nothing(self):
        for count in (1, 2, GREAT - 1, GREAT):
            for size in (1, 2, GREAT, 10 ** 40):
                self.assertEqual(count_moved("rest", count, count, size), 0)
                self.assertIsNone(first_moved("rest", count, count, size))

    def test_the_lesser_count_is_the_first_one_moved(self):
        for before, after in ((GREAT - 1, GREAT), (GREAT, GREAT - 1)):
            for size, first, number in (
                (1, None, 0), (GREAT - 2, None, 0), (GREAT - 1, None, 0), (GREAT, GREAT - 1, 1),
                (GREAT + 1, GREAT - 1, 2), (10 ** 40, GREAT - 1, 10 ** 40 - 2 * (GREAT - 1)),
            ):
                self.assertEqual(first_moved("rest", before, after, size), first)
                self.assertEqual(count_moved("rest", before, after, size), number)

    def test_about_a_whole_period(self):
        # The counts have no divisor in common but one: the period is their product.
        period = GREAT * (GREAT - 1)
        once = period - (GREAT - 1)
        self.assertEqual(count_moved("rest", GREAT - 1, GREAT, period - 1), once - 1)
        self.assertEqual(count_moved("rest", GREAT - 1, GREAT, period), once)
        self.assertEqual(count_moved("rest", GREAT - 1, GREAT, period + 1), once)
        self.assertEqual(count_moved("rest", GREAT - 1, GREAT, period + GREAT - 1), once)
        self.assertEqual(count_moved("rest", GREAT - 1, GREAT, period + GREAT), once + 1)

    def test_counts_with_a_great_common_divisor(self):
        # Two and three lanes move four marks of six; so do counts that are this many times as great, and marks.
        times = 3 * 10 ** 19
        size = 6 * times * 5 * 10 ** 18
        self.assertEqual(count_moved("rest", 2 * times, 3 * times, size), size // 6 * 4)
        self.assertEqual(first_moved("rest", 2 * times, 3 * times, size), 2 * times)
        self.assertEqual(count_moved("rest", 3 * times, 2 * times, size + 2 * times + 5), size // 6 * 4 + 5)

    def test_a_count_of_one_beside_a_great_one(self):
        self.assertEqual(count_moved("rest", 1, GREAT, 10 ** 40), 10 ** 40 - GREAT)
        self.assertEqual(first_moved("rest", GREAT, 1, 10 ** 40), 1)
        self.assertEqual(count_moved("rest", 1, GREAT, 1), 0)
        self.assertIsNone(first_moved("rest", 1, GREAT, 1))

    def test_part_by_part(self):
        for before, after in ((GREAT - 7, GREAT), (GREAT, GREAT // 2 + 3), (GREAT // 3, GREAT // 7 + 1)):
            for size in (3 * GREAT, 40 * GREAT + 11, 97 * GREAT + GREAT // 2):
                starts = list(range(0, size, before)) + list(range(0, size, after))
                parts = moved_parts("rest", starts, before, after, size)
                self.assertEqual(count_moved("rest", before, after, size), sum(end - start for start, end in parts))
                self.assertEqual(first_moved("rest", before, after, size), parts[0][0])


class Ranges(unittest.TestCase):
    def test_counts_alike_move_nothing(self):
        for count in (1, 2, 999, 1000):
            for size in (1, 2, 999, 1000, 10 ** 40):
                self.assertEqual(count_moved("ranges", count, count, size), 0)
                self.assertIsNone(first_moved("ranges", count, count, size))

    def test_a_count_and_the_next_one_move_half_of_the_marks(self):
        # Lanes that are cut without a rest: of the part (999 * 1000 at once) just half is in lanes alike.
        for before, after in ((999, 1000), (1000, 999)):
            for times in (1, 7, 10 ** 34):
                self.assertEqual(count_moved("ranges", before, after, 999000 * times), 499500 * times)
                self.assertEqual(first_moved("ranges", before, after, 999000 * times), 999 * times)

    def test_part_by_part(self):
        for before, after in ((999, 1000), (1000, 1), (500, 1000), (997, 331)):
            for size in (10 ** 40, 10 ** 40 - 1):
                starts = lane_starts(before, size) + lane_starts(after, size)
                parts = moved_parts("ranges", starts, before, after, size)
                self.assertEqual(count_moved("ranges", before, after, size), sum(end - start for start, end in parts))
                self.assertEqual(first_moved("ranges", before, after, size), parts[0][0])

    def test_sizes_below_great_counts(self):
        for before, after in ((999, 1000), (1000, 998), (1000, 500)):
            for size in (1, 2, 3, 100, 499, 500, 501, 997, 998, 999, 1000, 1001):
                moved = moved_marks("ranges", before, after, size)
                self.assertEqual(count_moved("ranges", before, after, size), len(moved))
                self.assertEqual(first_moved("ranges", before, after, size), moved[0] if moved else None)


def wrongs_of(kind):
    """Return the parameters of both functions, their errors and wrong objects."""
    greatest = GREAT if kind == "rest" else 10 ** 3
    return [
        ("kind", BadKind, bad_kinds()),
        ("before", BadCount, bad_integers(1, greatest)),
        ("after", BadCount, bad_integers(1, greatest)),
        ("size", BadSize, bad_integers(1, 10 ** 40)),
    ]


class Arguments(Refusals):
    goods = [
        ("rest", 1, 1, 1), ("rest", 5, 7, 30), ("rest", GREAT, GREAT - 1, 10 ** 40),
        ("ranges", 1, 1, 1), ("ranges", 5, 7, 30), ("ranges", 1000, 999, 10 ** 40),
    ]

    def wrongs(self, good):
        return wrongs_of(good[0])

    def test_the_greatest_count_is_less_by_ranges(self):
        function, = self.function
        for great in (10 ** 3 + 1, GREAT):
            self.assertIsNone(error_of(function, ("rest", great, great, 5)))
            self.assertIs(error_of(function, ("ranges", great, 1, 5)), BadCount)
            self.assertIs(error_of(function, ("ranges", 1, great, 5)), BadCount)
            self.assertIs(error_of(function, ("ranges", 1, great, None)), BadCount)
            self.assertIs(error_of(function, ("range", great, great, 5)), BadKind)

    def test_counts_alike_and_bad_are_bad(self):
        function, = self.function
        self.assertIs(error_of(function, ("rest", 0, 0, 5)), BadCount)
        self.assertIs(error_of(function, ("ranges", True, True, 5)), BadCount)


class CountMovedArguments(Arguments, unittest.TestCase):
    function = [count_moved]


class FirstMovedArguments(Arguments, unittest.TestCase):
    function = [first_moved]


if __name__ == "__main__":
    unittest.main()
