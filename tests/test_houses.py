"""Points 7 and 8: what is a house, what is a case, and the house of a case."""

import itertools
import unittest

from refusals import Refusals, error_of
from things import nested, no_integers, part_at, paths_of, replaced, spoiled, strange

from lanescounted.errors import BadCase
from lanescounted.houses import house_of, is_case, is_house, is_plan, is_scheme

WORDS = ("show", "tell", "agree", "close", "clear", "drain", "copy", "open", "drop")
FLAGS = (True, False)
SCHEMES = list(itertools.product(FLAGS, FLAGS, ("back", "lost"), ("behind", "first", "with"), FLAGS))
SCHEME = (False, True, "back", "with", True)
ONE_SHOW = ("show", "close", "drain", "open")
TWO_SHOWS = ("show", "open", "drop", "show", "copy")

CASE = (SCHEME, ("show", "open"), (1, 2), (0, 1))
LONG_CASE = ((True, False, "lost", "first", False), TWO_SHOWS, (3, 1, 4), (2, 0, 3))
HOUSE = (SCHEME, ONE_SHOW, (2, 3), ((0, 1), (1, 2)), (2, 3), 2)
LONG_HOUSE = (
    (True, False, "lost", "behind", False), TWO_SHOWS, (4, 3, 2), ((3, 2, 1), (0, 0, 0), (1, 2, 0)), (1, 2, 3), 3,
)

GOOD_CASES = [CASE, LONG_CASE]
GOOD_HOUSES = [HOUSE, LONG_HOUSE, (SCHEME, ("show",), (1, 1), ((0, 0),), (1,), 1)]


def cut(good, paths):
    """Return the good object with the tuples at these paths one entry shorter, and one longer."""
    parts = [(path, part_at(good, path)) for path in paths]
    short = [replaced(good, path, part[:-1]) for path, part in parts]
    return short + [replaced(good, path, part + part[-1:]) for path, part in parts]


class GoodOnes(unittest.TestCase):
    def check_frame(self, scheme, plan, counts):
        lanes = tuple(count - 1 for count in counts)
        self.assertIs(is_case((scheme, plan, counts, lanes)), True)
        self.assertIs(is_house((scheme, plan, counts, (lanes, (0,) * len(counts)), (1, 3), 3)), True)

    def test_all_schemes(self):
        self.assertEqual(len(SCHEMES), 48)
        for scheme in SCHEMES:
            self.check_frame(scheme, ONE_SHOW, (2, 3))

    def test_all_words_and_the_lengths_of_plans(self):
        for word in WORDS[1:]:
            self.check_frame(SCHEME, ("show", word), (2, 3))
            self.check_frame(SCHEME, (word, "show", word, "show"), (2, 3, 1))
            self.check_frame(SCHEME, (word,) * 14 + ("show",), (2, 3))
            self.check_frame(SCHEME, ("show", "show") + (word,) * 13, (2, 3, 4))
        self.check_frame(SCHEME, ("show",), (1, 4))
        self.check_frame(SCHEME, ("show", "show"), (1, 4, 1))

    def test_all_counts(self):
        for plan, editions in ((("show",), 2), (("show", "show"), 3)):
            for counts in itertools.product((1, 2, 3, 4), repeat=editions):
                self.check_frame(SCHEME, plan, counts)

    def test_all_courses_of_some_counts(self):
        for course in itertools.product(range(2), range(4), range(3)):
            self.assertIs(is_case((SCHEME, TWO_SHOWS, (2, 4, 3), course)), True)
            self.assertIs(is_house((SCHEME, TWO_SHOWS, (2, 4, 3), (course,), (2,), 2)), True)

    def test_keys_letters_and_senders(self):
        for keys in (1, 2, 3):
            for letters in itertools.product((1, 2, 3), repeat=keys):
                for senders in (1, 2, 3):
                    self.assertIs(is_house((SCHEME, ONE_SHOW, (2, 3), ((1, 2),) * keys, letters, senders)), True)

    def test_those_that_are_spoiled_below(self):
        for case in GOOD_CASES:
            self.assertIs(is_case(case), True)
        for house in GOOD_HOUSES:
            self.assertIs(is_house(house), True)


class BadHouses(unittest.TestCase):
    def refused(self, things):
        for thing in things:
            self.assertIs(is_house(thing), False)

    def test_any_object(self):
        self.refused(strange() + no_integers() + [0, 1, 2, Exception, nested(100), self])

    def test_each_part_exchanged(self):
        for house in GOOD_HOUSES:
            self.refused(spoiled(house))

    def test_tuples_of_other_lengths(self):
        for house in GOOD_HOUSES:
            self.refused(cut(house, [(), (0,), (2,), (3,), (4,)] + [(3, key) for key in range(len(house[3]))]))
            self.refused([replaced(house, (index,), ()) for index in range(5)])

    def test_words_and_shows(self):
        rest = ((2, 3), ((0, 1),), (2,), 2)
        for plan in ((), ("open",), ("tell", "open"), ("show",) * 3, ("show", "open") * 3, ("show",) + ("tell",) * 15):
            self.refused([(SCHEME, plan) + rest])
            self.refused([(SCHEME, plan, (2, 3, 1), ((0, 1, 0),), (2,), 2)])

    def test_as_many_counts_as_shows_and_one_more(self):
        self.refused([
            (SCHEME, ("show",), (2, 3, 1), ((0, 1, 0),), (2,), 2),
            (SCHEME, ("show", "show"), (2, 3), ((0, 1),), (2,), 2),
            (SCHEME, ("show",), (2,), ((0,),), (2,), 2),
            (SCHEME, ("show", "show", "show"), (2, 3, 1, 1), ((0, 1, 0, 0),), (2,), 2),
            (SCHEME, ("open",), (2,), ((0,),), (2,), 2),
        ])

    def test_counts_out_of_bounds(self):
        for place in range(2):
            for count in (0, 5, -1, 10 ** 20, True, None, "2"):
                counts = replaced((1, 1), (place,), count)
                self.refused([(SCHEME, ("show",), counts, ((0, 0),), (2,), 2)])

    def test_lanes_are_below_the_count_of_their_edition(self):
        for counts in itertools.product((1, 2, 3, 4), repeat=3):
            for edition in range(3):
                for lane in (counts[edition], -1, 4):
                    course = replaced((0, 0, 0), (edition,), lane)
                    self.refused([(SCHEME, TWO_SHOWS, counts, ((0, 0, 0), course), (2, 2), 2)])
                    self.refused([(SCHEME, TWO_SHOWS, counts, (course, (0, 0, 0)), (2, 2), 2)])

    def test_keys_letters_and_senders(self):
        frame = (SCHEME, ONE_SHOW, (2, 3))
        course = (1, 2)
        self.refused([frame + ((), (), 2), frame + ((course,) * 4, (2,) * 4, 2)])
        for keys, letters in itertools.permutations(range(5), 2):
            self.refused([frame + ((course,) * keys, (2,) * letters, 2)])
        self.refused([frame + ((course,), (number,), 2) for number in (0, 4, -1, True, False, "2", None, (2,))])
        self.refused([frame + ((course,), (2,), number) for number in (0, 4, -1, True, False, "2", None, (2,))])

    def test_true_and_false_stand_for_no_number(self):
        # Each number here is 0 or 1, which True and False are equal to.
        house = (SCHEME, ("show",), (1, 1), ((0, 0),), (1,), 1)
        self.assertIs(is_house(house), True)
        for path in paths_of(house)[2:]:
            part = part_at(house, path)
            if isinstance(part, int) and not isinstance(part, bool):
                self.refused([replaced(house, path, bool(part))])

    def test_no_number_stands_for_true_or_false(self):
        for place, flag in ((0, False), (1, True), (4, True)):
            self.refused([replaced(HOUSE, (0, place), int(flag)), replaced(HOUSE, (0, place), 1 - int(flag))])

    def test_words_of_one_part_do_not_stand_in_another(self):
        self.refused([replaced(HOUSE, (0, 2), word) for word in ("with", "behind", "first", "show", True)])
        self.refused([replaced(HOUSE, (0, 3), word) for word in ("back", "lost", "show", False)])
        self.refused([replaced(HOUSE, (1, 1), word) for word in ("back", "lost", "with", "learn", "word", "")])

    def test_a_case_is_no_house(self):
        self.refused(GOOD_CASES)


class BadCases(unittest.TestCase):
    def refused(self, things):
        for thing in things:
            self.assertIs(is_case(thing), False)
            self.assertIs(error_of(house_of, (thing,)), BadCase)

    def test_any_object(self):
        self.refused(strange() + no_integers() + [0, 1, 2, Exception, nested(100), self])

    def test_each_part_exchanged(self):
        for case in GOOD_CASES:
            self.refused(spoiled(case))

    def test_tuples_of_other_lengths(self):
        for case in GOOD_CASES:
            self.refused(cut(case, [(), (0,), (2,), (3,)]))
            self.refused([replaced(case, (index,), ()) for index in range(4)])

    def test_words_and_shows(self):
        for plan in ((), ("open",), ("tell", "open"), ("show",) * 3, ("show", "open") * 3, ("show",) + ("tell",) * 15):
            self.refused([(SCHEME, plan, (2, 3), (0, 1)), (SCHEME, plan, (2, 3, 1), (0, 1, 0))])

    def test_as_many_counts_as_shows_and_one_more(self):
        self.refused([
            (SCHEME, ("show",), (2, 3, 1), (0, 1, 0)), (SCHEME, ("show", "show"), (2, 3), (0, 1)),
            (SCHEME, ("show",), (2,), (0,)), (SCHEME, ("show",) * 3, (2, 3, 1, 1), (0, 1, 0, 0)),
        ])

    def test_lanes_are_below_the_count_of_their_edition(self):
        for counts in itertools.product((1, 2, 3, 4), repeat=2):
            for edition in range(2):
                for lane in (counts[edition], -1, 4, True, False):
                    self.refused([(SCHEME, ("show",), counts, replaced((0, 0), (edition,), lane))])

    def test_a_house_is_no_case(self):
        self.refused(GOOD_HOUSES)
        self.refused([(SCHEME, ("show", "open"), (1, 2), ((0, 1),))])


class HouseOf(unittest.TestCase):
    def test_one_course_two_letters_and_two_senders(self):
        self.assertEqual(house_of(CASE), (SCHEME, ("show", "open"), (1, 2), ((0, 1),), (2,), 2))
        self.assertEqual(house_of(LONG_CASE), LONG_CASE[:3] + (((2, 0, 3),), (2,), 2))

    def test_it_is_a_house(self):
        for scheme in SCHEMES:
            for plan, counts, course in ((("show",), (1, 4), (0, 3)), (TWO_SHOWS, (4, 1, 2), (3, 0, 1))):
                house = house_of((scheme, plan, counts, course))
                self.assertIs(type(house), tuple)
                self.assertIs(is_house(house), True)
                self.assertEqual(house, (scheme, plan, counts, (course,), (2,), 2))

    def test_true_and_false_stay_what_they_are(self):
        scheme = house_of(CASE)[0]
        self.assertEqual([type(part) for part in scheme], [bool, bool, str, str, bool])


class CaseArguments(Refusals):
    goods = [(CASE,), (LONG_CASE,)]

    def wrongs(self, good):
        return [("case", BadCase, strange() + no_integers() + GOOD_HOUSES + spoiled(good[0]))]


class HouseOfArguments(CaseArguments, unittest.TestCase):
    function = [house_of]


class PlansAndSchemes(unittest.TestCase):
    def test_a_plan_alone(self):
        for plan in (("show",), ("show", "show"), ("drop",) * 14 + ("show",), ("show", "show") + ("copy",) * 13):
            self.assertIs(is_plan(plan), True)
        for plan in ((), ("open",), ("show",) * 3, ("show", "show") + ("copy",) * 14, ("show", "learn"), ["show"]):
            self.assertIs(is_plan(plan), False)
        for thing in strange() + no_integers() + spoiled(ONE_SHOW):
            self.assertIs(is_plan(thing), False)

    def test_a_scheme_alone(self):
        for scheme in SCHEMES:
            self.assertIs(is_scheme(scheme), True)
        for thing in strange() + no_integers() + spoiled(SCHEME) + cut(SCHEME, [()]):
            self.assertIs(is_scheme(thing), False)


class AnyThing(unittest.TestCase):
    def test_by_name(self):
        self.assertIs(is_house(thing=HOUSE), True)
        self.assertIs(is_house(thing=CASE), False)
        self.assertIs(is_case(thing=CASE), True)
        self.assertIs(is_case(thing=HOUSE), False)

    def test_good_ones_around_bad_ones(self):
        for bad in strange() + spoiled(CASE) + spoiled(HOUSE):
            self.assertEqual((is_house(HOUSE), is_house(bad), is_house(HOUSE)), (True, False, True))
            self.assertEqual((is_case(CASE), is_case(bad), is_case(CASE)), (True, False, True))


if __name__ == "__main__":
    unittest.main()
