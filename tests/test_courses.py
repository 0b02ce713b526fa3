"""Point 6: all courses, those that stand for their alike ones, and how many marks have each."""

import itertools
import unittest

from refusals import Refusals
from things import bad_integers, bad_kinds, no_integers, paths_of, replaced, strange

from lanescounted.errors import BadCounts, BadKind, BadSize
from lanescounted.tables import all_courses, course_shares, lane_of, small_courses

ALL_COUNTS = [
    counts for editions in (2, 3) for counts in itertools.product((1, 2, 3, 4), repeat=editions)
]


def renamings(counts):
    """Return all renamings of counts, by the words of point 6."""
    return [
        lanes for lanes in itertools.permutations(range(max(counts)))
        if all(lanes[lane] < count for count in counts for lane in range(count))
    ]


def alike(counts, first, second):
    """Tell whether a renaming leads from the first course to the second one."""
    return any(tuple(lanes[lane] for lane in first) == second for lanes in renamings(counts))


def bad_counts(good):
    """Return objects that are no counts: strange ones, wrong lengths, lists, and bad numbers at each place."""
    things = strange() + [True, False, 0, 1, 2, 12, "rest", good[0], list(good), good[:1], (2, 3, 4, 1), good * 2]
    things += [tuple(list(good) + [None]), {1: 2, 2: 3}, (good,), (good, good), "12", range(1, 3)]
    for path in paths_of(good)[1:]:
        things += [replaced(good, path, thing) for thing in no_integers() + [0, 5, -1, 10 ** 20, [2], good]]
    return things


class AllCourses(unittest.TestCase):
    def test_two_editions(self):
        self.assertEqual(all_courses((1, 2)), [(0, 0), (0, 1)])
        self.assertEqual(all_courses((2, 1)), [(0, 0), (1, 0)])
        self.assertEqual(all_courses((2, 3)), [(0, 0), (0, 1), (0, 2), (1, 0), (1, 1), (1, 2)])

    def test_three_editions(self):
        self.assertEqual(all_courses((1, 1, 1)), [(0, 0, 0)])
        self.assertEqual(all_courses((2, 1, 2)), [(0, 0, 0), (0, 0, 1), (1, 0, 0), (1, 0, 1)])

    def test_all_counts(self):
        self.assertEqual(len(ALL_COUNTS), 80)
        for counts in ALL_COUNTS:
            courses = list(itertools.product(*[range(count) for count in counts]))
            self.assertEqual(courses, sorted(set(courses)))
            self.assertEqual(all_courses(counts), courses)


class SmallCourses(unittest.TestCase):
    def test_some(self):
        self.assertEqual(small_courses((1, 1)), [(0, 0)])
        self.assertEqual(small_courses((1, 2)), [(0, 0), (0, 1)])
        self.assertEqual(small_courses((2, 2)), [(0, 0), (0, 1)])
        self.assertEqual(small_courses((2, 3)), [(0, 0), (0, 1), (0, 2)])
        self.assertEqual(small_courses((1, 4)), [(0, 0), (0, 1)])

    def test_lanes_stay_below_the_count_of_each_edition(self):
        # By two lanes and then three, lane 2 can be renamed to itself alone.
        self.assertEqual(small_courses((2, 3, 2)), [
            (0, 0, 0), (0, 0, 1), (0, 1, 0), (0, 1, 1), (0, 2, 0), (0, 2, 1),
        ])

    def test_all_counts(self):
        for counts in ALL_COUNTS:
            courses = list(itertools.product(*[range(count) for count in counts]))
            small = [
                course for course in courses
                if not any(alike(counts, lesser, course) for lesser in courses if lesser < course)
            ]
            self.assertEqual(small_courses(counts), small, counts)


class CourseShares(unittest.TestCase):
    def test_some(self):
        self.assertEqual(course_shares("rest", (2, 3), 1), [((0, 0), 1)])
        self.assertEqual(course_shares("rest", (2, 3), 7), [
            ((0, 0), 2), ((0, 1), 1), ((0, 2), 1), ((1, 0), 1), ((1, 1), 1), ((1, 2), 1),
        ])
        self.assertEqual(course_shares("ranges", (2, 3), 6), [
            ((0, 0), 2), ((0, 1), 1), ((1, 1), 1), ((1, 2), 2),
        ])

    def test_mark_by_mark(self):
        for kind in ("rest", "ranges"):
            for counts in ALL_COUNTS:
                for size in list(range(1, 15)) + [23, 24, 25, 37]:
                    courses = [tuple(lane_of(kind, count, mark, size) for count in counts) for mark in range(size)]
                    shares = [(course, courses.count(course)) for course in sorted(set(courses))]
                    self.assertEqual(course_shares(kind, counts, size), shares, (kind, counts, size))

    def test_great_sizes(self):
        for kind in ("rest", "ranges"):
            for counts in ALL_COUNTS:
                for size in (10 ** 40, 10 ** 40 - 1, 10 ** 39 + 7):
                    shares = course_shares(kind, counts, size)
                    courses = [course for course, _ in shares]
                    self.assertEqual(sum(number for _, number in shares), size)
                    self.assertEqual(courses, sorted(set(courses)))
                    self.assertTrue(all(number > 0 for _, number in shares))
                    self.assertTrue(all(course in all_courses(counts) for course in courses))

    def test_great_sizes_share_as_small_ones_do(self):
        # Twelve is a multiple of all counts: that many marks are cut without a rest.
        times = 8 * 10 ** 38
        for kind in ("rest", "ranges"):
            for counts in ALL_COUNTS:
                great = [(course, number * times) for course, number in course_shares(kind, counts, 12)]
                self.assertEqual(course_shares(kind, counts, 12 * times), great)

    def test_a_great_size_exactly(self):
        third = (10 ** 40 - 1) // 3
        by_rest = [((0, 0), third + 1), ((0, 1), third), ((0, 2), third)]
        by_ranges = [((0, 0), third + 1), ((1, 0), third), ((2, 0), third)]
        self.assertEqual(course_shares("rest", (1, 3), 10 ** 40), by_rest)
        self.assertEqual(course_shares("ranges", (3, 1), 10 ** 40), by_ranges)

    def test_courses_and_shares_are_tuples(self):
        for kind in ("rest", "ranges"):
            for share in course_shares(kind, (2, 3, 4), 50):
                self.assertIs(type(share), tuple)
                self.assertEqual(len(share), 2)
                self.assertIs(type(share[0]), tuple)
                self.assertIs(type(share[1]), int)


class Arguments(Refusals):
    goods = [((1, 1),), ((2, 3),), ((4, 4),), ((1, 1, 1),), ((3, 2, 4),), ((4, 4, 4),)]

    def wrongs(self, good):
        return [("counts", BadCounts, bad_counts(good[0]))]

    def test_the_list_holds_tuples(self):
        function, = self.function
        for good in self.goods:
            found = function(*good)
            self.assertIs(type(found), list)
            self.assertTrue(all(type(course) is tuple for course in found))


class AllCoursesArguments(Arguments, unittest.TestCase):
    function = [all_courses]


class SmallCoursesArguments(Arguments, unittest.TestCase):
    function = [small_courses]


class CourseSharesArguments(Refusals, unittest.TestCase):
    function = [course_shares]
    goods = [("rest", (1, 4), 1), ("ranges", (4, 2), 10 ** 40), ("rest", (3, 2, 4), 100), ("ranges", (1, 1, 1), 3)]

    def wrongs(self, good):
        return [
            ("kind", BadKind, bad_kinds()),
            ("counts", BadCounts, bad_counts(good[1])),
            ("size", BadSize, bad_integers(1, 10 ** 40)),
        ]


if __name__ == "__main__":
    unittest.main()
