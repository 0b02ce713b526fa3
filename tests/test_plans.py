"""Points 22 and 23: what plans show by course, how many keys they harm, the lanes that they leave, and fences."""

import functools
import itertools
import random
import unittest

from cases import EXAMPLE, case_of
from model import WORDS, Atlas, Model, random_frame, random_plan, random_scheme
from refusals import Refusals, error_of
from things import ALL_QUESTIONS, bad_integers, bad_kinds, bad_plans, bad_questions, bad_schemes, no_integers, spoiled
from things import strange

from lanescounted.answers import answer_to
from lanescounted.errors import BadCase, BadKind, BadQuestion, BadSize
from lanescounted.plans import harmed, is_fenced, left_lanes, shown_by, shut_lanes
from lanescounted.tables import all_courses, is_counts, lane_of, small_courses

SCHEME = EXAMPLE[0]
LOOSE = (True, False, "lost", "first", False)
ONE_SHOW = ("show", "close", "drain", "open")
TWO_SHOWS = ("show", "tell", "show", "open")


@functools.cache
def shows(case, question):
    """Tell whether some run of a case shows the question."""
    return answer_to(case, question)[0] == "run"


def small_frame(dice, most=4):
    """Return some scheme, a plan of so many words at most, and small counts."""
    plan = random_plan(dice, most)
    return random_scheme(dice), plan, tuple(dice.randint(1, 3) for _ in range(plan.count("show") + 1))


class ShownBy(unittest.TestCase):
    def test_the_example(self):
        self.assertEqual(shown_by(SCHEME, ("show", "open"), (1, 2)), [((0, 0), ()), ((0, 1), ("order",))])
        self.assertEqual(shown_by(SCHEME, ONE_SHOW, (1, 2)), [((0, 0), ()), ((0, 1), ())])

    def test_questions_stand_in_their_order(self):
        plan = ("show", "drain", "open", "copy", "agree")
        found = dict(shown_by((False, True, "back", "behind", False), plan, (2, 2)))
        self.assertEqual(found[(0, 1)], ("order", "twice", "late", "stuck"))
        found = dict(shown_by((False, False, "back", "first", False), ("show", "close", "drop"), (1, 1)))
        self.assertEqual(found[(0, 0)], ("lost", "left"))

    def test_each_course_against_its_answers(self):
        dice = random.Random(22)
        told = []
        for _ in range(50):
            scheme, plan, counts = small_frame(dice, 5)
            found = shown_by(scheme, plan, counts)
            self.assertEqual([type(entry) for entry in found], [tuple] * len(found))
            self.assertEqual([course for course, _ in found], small_courses(counts))
            for course, questions in found:
                case = (scheme, plan, counts, course)
                self.assertEqual(questions, tuple([question for question in ALL_QUESTIONS if shows(case, question)]))
                told += questions
        for question in ALL_QUESTIONS:
            self.assertGreater(told.count(question), 5)

    def test_each_course_against_the_model(self):
        dice = random.Random(221)
        for _ in range(20):
            scheme, plan, counts = small_frame(dice)
            for course, questions in shown_by(scheme, plan, counts):
                atlas = Atlas((scheme, plan, counts, course))
                shown = [question for question in ALL_QUESTIONS if atlas.least(question) is not None]
                self.assertEqual(questions, tuple(shown))

    def test_alike_courses_show_the_same(self):
        dice = random.Random(222)
        for _ in range(12):
            scheme, plan, counts = small_frame(dice)
            small = dict(shown_by(scheme, plan, counts))
            lanes = [lanes for lanes in itertools.permutations(range(max(counts)))
                     if all(lanes[lane] < count for count in counts for lane in range(count))]
            for course in all_courses(counts):
                least = min(tuple(names[lane] for lane in course) for names in lanes)
                shown = [question for question in ALL_QUESTIONS if shows((scheme, plan, counts, course), question)]
                self.assertEqual(tuple(shown), small[least])

    def test_plans_of_one_word_and_of_eight(self):
        self.assertEqual(shown_by(SCHEME, ("show",), (1, 1)), [((0, 0), ())])
        plan = ("show", "open", "tell", "agree", "clear", "drain", "drop", "close")
        found = shown_by(SCHEME, plan, (2, 2))
        self.assertEqual(found, [((0, 0), ()), ((0, 1), ("order",))])
        plan = plan[:5] + ("close", "drain", "copy")
        self.assertEqual(shown_by((False, False, "lost", "behind", False), plan, (2, 1))[1], ((1, 0), ("order", "twice")))

    def test_plans_of_fifteen_words(self):
        plan = ("show",) + ("agree",) * 14
        self.assertEqual(shown_by(SCHEME, plan, (1, 1)), [((0, 0), ("stuck",))])

    def test_lists_that_are_returned_are_new(self):
        first = shown_by(SCHEME, ("show", "open"), (1, 2))
        kept = list(first)
        first.clear()
        self.assertEqual(shown_by(SCHEME, ("show", "open"), (1, 2)), kept)


class Harmed(unittest.TestCase):
    def test_against_counting_mark_by_mark(self):
        dice = random.Random(23)
        found = []
        for _ in range(120):
            scheme, plan, counts = small_frame(dice)
            kind, size, question = dice.choice(("rest", "ranges")), dice.randint(1, 40), dice.choice(ALL_QUESTIONS)
            number = 0
            for mark in range(size):
                course = tuple(lane_of(kind, count, mark, size) for count in counts)
                number += shows((scheme, plan, counts, course), question)
            self.assertEqual(harmed(scheme, plan, kind, counts, size, question), number)
            found.append(0 < number < size)
        self.assertGreater(found.count(True), 5)

    def test_each_small_size(self):
        for kind in ("rest", "ranges"):
            for size in range(1, 13):
                moved = sum(1 for mark in range(size) if lane_of(kind, 2, mark, size) != lane_of(kind, 1, mark, size))
                number = harmed(SCHEME, ("show", "open"), kind, (1, 2), size, "order")
                self.assertEqual(number, moved)
                self.assertIs(type(number), int)

    def test_the_greatest_size(self):
        size = 10 ** 40
        for kind in ("rest", "ranges"):
            self.assertEqual(harmed(SCHEME, ("show", "open"), kind, (1, 2), size, "order"), size // 2)
            self.assertEqual(harmed(SCHEME, ONE_SHOW, kind, (1, 2), size, "order"), 0)
            self.assertEqual(harmed(SCHEME, ("show", "agree"), kind, (4, 3), size, "stuck"), size)
        # Of four marks the last two change their lane if two lanes become four, of twelve all but the first three
        # if three become four.
        self.assertEqual(harmed(SCHEME, ("show", "open"), "rest", (2, 4), size, "order"), size // 2)
        kept = size // 12 * 3 + 3
        self.assertEqual(harmed(SCHEME, ("show", "open"), "rest", (3, 4), size - 1, "order"), size - 1 - kept)

    def test_a_size_of_one(self):
        for kind in ("rest", "ranges"):
            for question in ALL_QUESTIONS:
                self.assertEqual(harmed(SCHEME, ("show", "open"), kind, (3, 4), 1, question), 0)
            self.assertEqual(harmed(SCHEME, ("show", "agree"), kind, (3, 4), 1, "stuck"), 1)

    def test_two_shows(self):
        size = 24
        for kind in ("rest", "ranges"):
            for question in ALL_QUESTIONS:
                counts = (2, 3, 2)
                courses = [tuple(lane_of(kind, count, mark, size) for count in counts) for mark in range(size)]
                expected = sum(shows((LOOSE, TWO_SHOWS, counts, course), question) for course in courses)
                self.assertEqual(harmed(LOOSE, TWO_SHOWS, kind, counts, size, question), expected)


class Lanes(unittest.TestCase):
    def check(self, plan, counts, left, shut):
        plan = tuple(plan.split())
        self.assertEqual(left_lanes(plan, counts), left)
        self.assertEqual(shut_lanes(plan, counts), shut)

    def test_lanes_that_are_opened_and_dropped(self):
        self.check("show", (1, 3), [], [1, 2])
        self.check("show open", (1, 3), [], [])
        self.check("show", (3, 1), [1, 2], [])
        self.check("show open", (3, 1), [1, 2], [])
        self.check("show open drop", (3, 1), [], [])
        self.check("show drop", (3, 1), [], [0])
        self.check("open show", (2, 3), [], [2])
        self.check("show", (2, 2), [], [])
        self.check("drop show open", (4, 1), [1, 2, 3], [])

    def test_two_shows(self):
        self.check("show open show", (1, 2, 4), [], [2, 3])
        self.check("show open show drop", (1, 2, 4), [], [0, 1, 2, 3])
        self.check("show show open", (1, 2, 4), [], [])
        self.check("show open show open drop", (2, 4, 3), [], [])
        self.check("show open show open", (2, 4, 3), [3], [])
        self.check("show open drop show", (2, 4, 3), [3], [])
        self.check("show open show drop", (2, 4, 3), [], [0, 1, 2])
        self.check("show show drop", (2, 4, 3), [], [0, 1, 2])
        self.check("show show", (4, 1, 2), [2, 3], [])

    def test_against_the_model(self):
        dice = random.Random(24)
        found = []
        for _ in range(600):
            scheme, plan, counts = random_frame(dice)
            model = Model((scheme, plan, counts, ((0,) * len(counts),), (2,), 2))
            model.done = list(plan)
            readable = [lane for lane in range(max(counts)) if model.readable(lane)]
            serving = list(range(counts[-1]))
            left, shut = left_lanes(plan, counts), shut_lanes(plan, counts)
            self.assertEqual(left, [lane for lane in readable if lane not in serving])
            self.assertEqual(shut, [lane for lane in serving if lane not in readable])
            found += [bool(left), bool(shut)]
        self.assertGreater(found.count(True), 200)


def fenced_by_places(plan):
    """Tell whether a plan is fenced: a second reading, that looks for the places of closes and drains."""
    part, good = None, True
    for word in plan:
        if word == "show":
            part = []
        elif part is not None:
            if word in ("tell", "open", "copy") and not set(part) & {"tell", "open", "copy"}:
                good = good and "close" in part
            if word in ("tell", "open") and not set(part) & {"tell", "open"}:
                good = good and any(
                    part[early] == "close" and part[late] == "drain"
                    for early, late in itertools.combinations(range(len(part)), 2)
                )
            part.append(word)
    return good


class Fences(unittest.TestCase):
    def test_known_plans(self):
        for text, expected in (
            ("show", True), ("show show", True), ("show agree clear drain drop", True), ("show open", False),
            ("show tell", False), ("show copy", False), ("show close open", False), ("show close tell", False),
            ("show close copy", True), ("show close drain open", True), ("show close drain tell", True),
            ("show close drain copy open tell", True), ("show close copy drain open", True),
            ("show copy close drain open", False), ("show drain close open", False), ("show drain close drain open", True),
            ("show close open drain", False), ("show close open drain open", False), ("show close drain open copy", True),
            ("show close agree clear drain clear open", True), ("show drain close drain close open", True),
            ("show close drain open tell open copy", True), ("show drop close drop drain drop tell", True),
        ):
            self.assertIs(is_fenced(tuple(text.split())), expected, text)

    def test_what_stands_ahead_of_the_first_show_is_not_asked(self):
        self.assertIs(is_fenced(("open", "tell", "copy", "show")), True)
        self.assertIs(is_fenced(("open", "show", "close", "drain", "open")), True)
        self.assertIs(is_fenced(("close", "drain", "show", "open")), False)

    def test_each_show_has_its_own_words(self):
        fence = ("close", "drain", "open")
        self.assertIs(is_fenced(("show", *fence, "show", *fence)), True)
        self.assertIs(is_fenced(("show", *fence, "show", "open")), False)
        self.assertIs(is_fenced(("show", "open", "show", *fence)), False)
        self.assertIs(is_fenced(("show", "close", "drain", "show", "open")), False)
        self.assertIs(is_fenced(("show", "close", "show", "drain", "open")), False)
        self.assertIs(is_fenced(("show", "show", *fence)), True)
        self.assertIs(is_fenced(("show", "show", "tell")), False)

    def test_against_a_second_reading(self):
        dice = random.Random(25)
        plans = [("show", *words) for words in itertools.product(WORDS, repeat=4) if words.count("show") < 2]
        plans += [random_plan(dice) for _ in range(3000)]
        found = []
        for plan in plans:
            fenced = is_fenced(plan)
            self.assertIs(fenced, fenced_by_places(plan), plan)
            found.append(fenced)
        self.assertGreater(found.count(True), 1000)
        self.assertGreater(found.count(False), 1000)

    def test_a_fenced_plan_never_shows_order_if_letters_are_paced(self):
        dice = random.Random(26)
        turned = []
        while len(turned) < 60:
            plan = random_plan(dice, 7)
            if not is_fenced(plan) or not {"open", "tell", "copy"} & set(plan):
                continue
            asks, _, refused, notes, steady = random_scheme(dice)
            counts = tuple(dice.randint(1, 3) for _ in range(plan.count("show") + 1))
            scheme = (asks, True, refused, "with" if notes == "first" else notes, steady)
            case = (scheme, plan, counts, tuple(map(dice.randrange, counts)))
            turned.append(case)
            self.assertFalse(shows(case, "order"), case)

    def test_without_paces_or_noting_first_a_fence_may_not_help(self):
        self.assertIs(shows(case_of("show close drain open"), "order"), False)
        self.assertIs(shows(case_of("show close drain open", paced=False), "order"), True)
        self.assertIs(shows(case_of("show close drain open", notes="first"), "order"), True)

    def test_fifteen_words(self):
        self.assertIs(is_fenced(("show",) + ("close", "drain") * 6 + ("copy", "open")), True)
        self.assertIs(is_fenced(("show", "show") + ("drain",) * 11 + ("close", "open")), False)


FRAMES = [(SCHEME, ("show", "open"), (1, 2)), (LOOSE, TWO_SHOWS, (2, 1, 2))]


def bad_counts(counts):
    """Return what is no counts of as many editions, much of it near these."""
    things = strange() + no_integers() + [0, 1, (0,) * len(counts), (5,) * len(counts)] + spoiled(counts)
    return [thing for thing in things if not is_counts(thing)] + [counts[:-1], counts + (1,)]


class ShownByArguments(Refusals, unittest.TestCase):
    function = [shown_by]
    goods = FRAMES

    def wrongs(self, good):
        scheme, plan, counts = good
        return [
            ("scheme", BadCase, bad_schemes(scheme)), ("plan", BadCase, bad_plans(plan)),
            ("counts", BadCase, bad_counts(counts)),
        ]


class HarmedArguments(Refusals, unittest.TestCase):
    function = [lambda scheme, plan, counts, kind, size, question: harmed(scheme, plan, kind, counts, size, question)]
    goods = [(*FRAMES[0], "rest", 7, "order"), (*FRAMES[1], "ranges", 10 ** 40, "stuck")]

    def wrongs(self, good):
        # The errors come in this order: the case first, though the kind stands ahead of the counts.
        scheme, plan, counts, *_ = good
        return [
            ("scheme", BadCase, bad_schemes(scheme)[::3]), ("plan", BadCase, bad_plans(plan)[::3]),
            ("counts", BadCase, bad_counts(counts)[::3]), ("kind", BadKind, bad_kinds()),
            ("size", BadSize, bad_integers(1, 10 ** 40)), ("question", BadQuestion, bad_questions(ALL_QUESTIONS)),
        ]

    def test_names(self):
        scheme, plan, counts = FRAMES[0]
        number = harmed(question="order", size=9, counts=counts, kind="rest", plan=plan, scheme=scheme)
        self.assertEqual(number, harmed(scheme, plan, "rest", counts, 9, "order"))
        self.assertEqual(number, 4)


class LaneArguments(Refusals):
    goods = [(("show",), (1, 3)), (("show", "open"), (4, 2)), (TWO_SHOWS, (2, 1, 4))]

    def wrongs(self, good):
        plan, counts = good
        return [("plan", BadCase, bad_plans(plan)), ("counts", BadCase, bad_counts(counts))]

    def test_as_many_counts_as_shows_and_one_more(self):
        function, = self.function
        for plan in (("show",), ("show", "open", "show"), ("open",), ("show",) * 3):
            for many in range(5):
                fits = 1 <= plan.count("show") <= 2 and many == plan.count("show") + 1
                self.assertIs(error_of(function, (plan, (2,) * many)), None if fits else BadCase)


class LeftLanesArguments(LaneArguments, unittest.TestCase):
    function = [left_lanes]


class ShutLanesArguments(LaneArguments, unittest.TestCase):
    function = [shut_lanes]


class IsFencedArguments(Refusals, unittest.TestCase):
    function = [is_fenced]
    goods = [(("show",),), (ONE_SHOW,), (TWO_SHOWS,)]

    def wrongs(self, good):
        return [("plan", BadCase, bad_plans(good[0]))]


if __name__ == "__main__":
    unittest.main()
