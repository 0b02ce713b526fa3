"""Tables: the lane of a mark, the marks that move, and the courses of keys through the editions."""

from math import lcm

from lanescounted.checks import is_row, is_whole, is_word
from lanescounted.errors import BadCount, BadCounts, BadKind, BadMark, BadSize

KINDS = ("rest", "ranges")
GREATEST_COUNT = 10 ** 20
GREATEST_MOVED_BY_RANGES = 10 ** 3
GREATEST_MARK = 10 ** 40
GREATEST_SIZE = 10 ** 40
GREATEST_OF_COUNTS = 4


def lane_of(kind, count, mark, size):
    """Return the lane of a mark by the table of this kind and count [4]."""
    check_kind(kind)
    check_count(count, GREATEST_COUNT)
    if not is_whole(mark, 0, GREATEST_MARK):
        raise BadMark("a mark is an integer from 0 to 10 ** 40")
    check_size(size)
    if mark >= size:
        raise BadMark("a mark is below the size")
    return lane_at(kind, count, mark, size)


def count_moved(kind, before, after, size):
    """Return how many marks below the size have unlike lanes by the two counts [5]."""
    check_moved(kind, before, after, size)
    low, high = min(before, after), max(before, after)
    if kind == "rest":
        return size - kept_by_rest(low, high, size)
    return size - kept_by_ranges(low, high, size)


def first_moved(kind, before, after, size):
    """Return the least mark below the size that has unlike lanes by the two counts, None if there is none [5]."""
    check_moved(kind, before, after, size)
    low, high = min(before, after), max(before, after)
    if kind == "ranges":
        return first_moved_by_ranges(low, high, size)
    # By "rest" the marks below the lesser count are their own lanes; this count itself is lane 0 by it alone.
    return low if low < min(high, size) else None


def all_courses(counts):
    """Return the list, ascending, of all courses of the counts [6]."""
    check_counts(counts)
    return courses_of(counts)


def small_courses(counts):
    """Return the list, ascending, of the courses that are not alike to a lesser one [6]."""
    check_counts(counts)
    return [course for course in courses_of(counts) if course == least_alike(course, counts)]


def course_shares(kind, counts, size):
    """Return the list, ascending, of (course, number) for each course that some mark below the size has [6]."""
    check_kind(kind)
    check_counts(counts)
    check_size(size)
    if kind == "rest":
        return sorted(shares_by_rest(counts, size))
    return sorted(shares_by_ranges(counts, size))


def is_counts(thing):
    """Tell whether the object is the counts of two or three editions [6]."""
    return is_row(thing, 2, 3) and all([is_whole(count, 1, GREATEST_OF_COUNTS) for count in thing])


def is_course(thing, counts):
    """Tell whether the object is a course of these counts [6]."""
    if not is_row(thing, len(counts), len(counts)):
        return False
    return all([is_whole(lane, 0, count - 1) for lane, count in zip(thing, counts)])


def check_kind(kind):
    """Raise BadKind for an object that is no kind."""
    if not is_word(kind, KINDS):
        raise BadKind("a kind is rest or ranges")


def check_count(count, greatest):
    """Raise BadCount for an object that is no count up to the greatest one."""
    if not is_whole(count, 1, greatest):
        raise BadCount(f"a count is an integer from 1 to {greatest} here")


def check_size(size):
    """Raise BadSize for an object that is no size."""
    if not is_whole(size, 1, GREATEST_SIZE):
        raise BadSize("a size is an integer from 1 to 10 ** 40")


def check_counts(counts):
    """Raise BadCounts for an object that is no counts."""
    if not is_counts(counts):
        raise BadCounts("counts are a tuple of two or three integers from 1 to 4")


def check_moved(kind, before, after, size):
    """Raise the error of the first argument of count_moved and first_moved that is bad."""
    check_kind(kind)
    greatest = GREATEST_COUNT if kind == "rest" else GREATEST_MOVED_BY_RANGES
    check_count(before, greatest)
    check_count(after, greatest)
    check_size(size)


def lane_at(kind, count, mark, size):
    """Return the lane of a mark, for arguments that are known to be good."""
    return mark % count if kind == "rest" else mark * count // size


def kept_by_rest(low, high, size):
    """Return how many marks have the same lane by two counts, the lesser one first, by the kind "rest"."""
    # Both lanes repeat behind the period. A mark that leaves less than the lesser count when divided by it has
    # this rest as its lane by both counts; and two marks of a period never have both lanes alike, so there is
    # no further one for any common lane.
    period = lcm(low, high)
    return size // period * low + min(size % period, low)


def lane_start(lane, count, size):
    """Return the least mark that has this lane or a greater one by the kind "ranges"; the size, if none has."""
    # The quotient is rounded up: mark * count // size >= lane holds from there on.
    return (lane * size + count - 1) // count


def kept_by_ranges(low, high, size):
    """Return how many marks have the same lane by two counts, the lesser one first, by the kind "ranges"."""
    kept = 0
    for lane in range(low):
        # By the greater count a lane starts, and ends, no later than its number does by the lesser count. So
        # what both have in common goes from the start by the lesser count to the end by the greater one.
        kept += max(0, lane_start(lane + 1, high, size) - lane_start(lane, low, size))
    return kept


def first_moved_by_ranges(low, high, size):
    """Return the least mark with unlike lanes by two counts, the lesser one first, None if there is none."""
    for lane in range(1, low + 1):
        start = lane_start(lane, high, size)
        # All lanes ahead of this one start alike, so up to here every mark has the same lane by both.
        if start < lane_start(lane, low, size):
            return start
    return None


def courses_of(counts):
    """Return all courses, ascending, of counts that are known to be good."""
    courses = [()]
    for count in counts:
        courses = [course + (lane,) for course in courses for lane in range(count)]
    return courses


def renamings_of(counts):
    """Return all renamings, ascending, of counts that are known to be good [6]."""
    renamings = [()]
    for old in range(max(counts)):
        # A lane has to stay below each count that it is below; the least of these is the one that binds.
        room = min([count for count in counts if old < count])
        renamings = [lanes + (new,) for lanes in renamings for new in range(room) if new not in lanes]
    return renamings


def renamed(course, lanes):
    """Return the course with each of its lanes renamed."""
    return tuple([lanes[lane] for lane in course])


def least_alike(course, counts):
    """Return the least of the courses that are alike to this one, for counts that are known to be good [6]."""
    return min([renamed(course, lanes) for lanes in renamings_of(counts)])


def shares_by_rest(counts, size):
    """Return the shares, in any order, by the kind "rest"."""
    period = period_of(counts)
    # Two marks have the same course just if they leave the same rest here, so no course comes twice.
    return [
        (course_of("rest", counts, rest, size), (size - 1 - rest) // period + 1)
        for rest in range(min(period, size))
    ]


def shares_by_ranges(counts, size):
    """Return the shares, in any order, by the kind "ranges"."""
    starts = sorted({lane_start(lane, count, size) for count in counts for lane in range(count + 1)})
    # From one start to the next the course stays, and at each start a lane grows, so no course comes twice.
    return [
        (course_of("ranges", counts, start, size), end - start)
        for start, end in zip(starts, starts[1:])
    ]


def course_of(kind, counts, mark, size):
    """Return the course of a mark: its lane by each of the counts."""
    return tuple([lane_at(kind, count, mark, size) for count in counts])


def period_of(counts):
    """Return the least number of marks behind which the lanes by "rest" repeat for all counts."""
    period = 1
    for count in counts:
        period = lcm(period, count)
    return period
