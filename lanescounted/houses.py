"""Houses and cases: what is one, and the house of a case."""

from lanescounted.checks import is_row, is_whole, is_word
from lanescounted.errors import BadCase, BadScheme
from lanescounted.tables import is_counts, is_course

REFUSALS = ("back", "lost")
NOTINGS = ("behind", "first", "with")
WORDS = ("show", "tell", "agree", "close", "clear", "drain", "copy", "open", "drop")
MOST_WORDS = 15
MOST_SHOWS = 2
MOST_KEYS = 3
MOST_LETTERS = 3
MOST_SENDERS = 3
LETTERS_OF_A_CASE = 2
SENDERS_OF_A_CASE = 2


def is_house(thing):
    """Tell whether any object is a house [8]."""
    if not is_row(thing, 6, 6):
        return False
    scheme, plan, counts, courses, letters, senders = thing
    if not is_frame(scheme, plan, counts):
        return False
    return are_keys(courses, letters, counts) and is_whole(senders, 1, MOST_SENDERS)


def is_case(thing):
    """Tell whether any object is a case [8]."""
    if not is_row(thing, 4, 4):
        return False
    scheme, plan, counts, course = thing
    return is_frame(scheme, plan, counts) and is_course(course, counts)


def house_of(case):
    """Return the house of a case [7]."""
    check_case(case)
    scheme, plan, counts, course = case
    return (scheme, plan, counts, (course,), (LETTERS_OF_A_CASE,), SENDERS_OF_A_CASE)


def is_frame(scheme, plan, counts):
    """Tell whether three objects are a scheme, a plan and counts that fit the plan [7]."""
    return is_scheme(scheme) and is_plan(plan) and are_fitting(counts, plan)


def are_fitting(counts, plan):
    """Tell whether an object is counts that fit a plan that is known to be good [7]."""
    # An edition stands ahead of all shows, and each show brings a further one.
    return is_counts(counts) and len(counts) == plan.count("show") + 1


def is_scheme(thing):
    """Tell whether any object is a scheme [7]."""
    if not is_row(thing, 5, 5):
        return False
    asks, paced, refused, notes, steady = thing
    if not all([isinstance(flag, bool) for flag in (asks, paced, steady)]):
        return False
    return is_word(refused, REFUSALS) and is_word(notes, NOTINGS)


def is_plan(thing):
    """Tell whether any object is a plan [7]."""
    if not is_row(thing, 1, MOST_WORDS):
        return False
    return all([is_word(word, WORDS) for word in thing]) and 1 <= thing.count("show") <= MOST_SHOWS


def check_case(case):
    """Raise BadCase for an object that is no case."""
    if not is_case(case):
        raise BadCase("a case is a tuple of a scheme, a plan, its counts and a course of these")


def check_plan(plan):
    """Raise BadCase for an object that is no plan."""
    if not is_plan(plan):
        raise BadCase("a plan is a tuple of one to fifteen words, one or two of them show")


def check_scheme(scheme):
    """Raise BadScheme for an object that is no scheme."""
    if not is_scheme(scheme):
        raise BadScheme("a scheme is a tuple of asks, paced, refused, notes and steady")


def are_keys(courses, letters, counts):
    """Tell whether two objects are the courses, of these counts, and the numbers of letters of some keys [7]."""
    if not (is_row(courses, 1, MOST_KEYS) and is_row(letters, len(courses), len(courses))):
        return False
    if not all([is_course(course, counts) for course in courses]):
        return False
    return all([is_whole(number, 1, MOST_LETTERS) for number in letters])
