"""Plans: what they show for each course, how many keys they harm, the lanes that they leave, and fences."""

from lanescounted.answers import answer_to, questions_shown
from lanescounted.errors import BadCase
from lanescounted.frames import Moment
from lanescounted.houses import are_fitting, check_plan, is_frame, is_plan
from lanescounted.questions import QUESTIONS, check_question
from lanescounted.tables import course_shares, least_alike, small_courses


def shown_by(scheme, plan, counts):
    """Return the list of (course, questions) for the small courses: those that some run of the case shows [22]."""
    check_frame(scheme, plan, counts)
    return [(course, questions_shown((scheme, plan, counts, course))) for course in small_courses(counts)]


def harmed(scheme, plan, kind, counts, size, question):
    """Return how many marks below the size have a course whose case has a run that shows the question [22]."""
    check_frame(scheme, plan, counts)
    shares = course_shares(kind, counts, size)
    check_question(question, QUESTIONS)
    # Alike courses show the same, so one of them stands for all.
    numbers = {}
    for course, number in shares:
        small = least_alike(course, counts)
        numbers[small] = numbers.get(small, 0) + number
    return sum([
        number for course, number in numbers.items()
        if answer_to((scheme, plan, counts, course), question)[0] == "run"
    ])


def left_lanes(plan, counts):
    """Return the list, ascending, of the lanes that can still be read at the end, but serve no more [23]."""
    check_counts_of(plan, counts)
    return [lane for lane in Moment(plan, counts).readable if lane >= counts[-1]]


def shut_lanes(plan, counts):
    """Return the list, ascending, of the lanes that serve at the end, but cannot be read then [23]."""
    check_counts_of(plan, counts)
    readable = Moment(plan, counts).readable
    return [lane for lane in range(counts[-1]) if lane not in readable]


def is_fenced(plan):
    """Tell whether behind each show the elder edition is closed and drained in time [23]."""
    check_plan(plan)
    shows = [place for place, word in enumerate(plan) if word == "show"]
    ends = [*shows[1:], len(plan)]
    return all([is_fenced_part(plan[show + 1:end]) for show, end in zip(shows, ends)])


def is_fenced_part(words):
    """Tell whether the words between a show and the next one, or the end, are fenced."""
    ahead = words_ahead(words, ("tell", "open", "copy"))
    if len(ahead) < len(words) and "close" not in ahead:
        return False
    ahead = words_ahead(words, ("tell", "open"))
    if len(ahead) == len(words):
        return True
    return "drain" in ahead[ahead.index("close"):]


def words_ahead(words, others):
    """Return the words that stand ahead of the first one of others; all, if none of these is there."""
    places = [place for place, word in enumerate(words) if word in others]
    return words[:min(places, default=len(words))]


def check_frame(scheme, plan, counts):
    """Raise BadCase for objects that are no scheme, plan and counts of a case."""
    if not is_frame(scheme, plan, counts):
        raise BadCase("a case has a scheme, a plan, and as many counts as this has shows, and one more")


def check_counts_of(plan, counts):
    """Raise BadCase for objects that are no plan and counts that fit it."""
    if not (is_plan(plan) and are_fitting(counts, plan)):
        raise BadCase("a plan has as many counts as it has shows, and one more")
