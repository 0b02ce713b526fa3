"""Point 27: schemes within others, and runs that are carried over."""

import itertools
import random
import unittest

from cases import EXAMPLE, HANDED, IN_HAND, case_of
from model import Model, random_case, random_run
from refusals import Refusals, error_of
from test_houses import SCHEMES
from things import bad_cases, bad_runs, bad_schemes, steps_of

from lanescounted.answers import answer_to
from lanescounted.errors import BadCase, BadScheme, BadStep, NotWithin
from lanescounted.houses import house_of
from lanescounted.questions import run_shows
from lanescounted.runs import events_of
from lanescounted.schemes import carried_run, scheme_within

ASKED = ("order", "twice", "lost", "late")
# The parts of a scheme from the narrowest to the widest.
ORDERS = {0: (False, True), 1: (True, False), 4: (True, False)}


def is_wider(scheme, other):
    """Tell whether each part of the other scheme is at least as wide: a second reading."""
    if scheme[2] != other[2] or (scheme[3] != "with" and scheme[3] != other[3]):
        return False
    return all(order.index(scheme[part]) <= order.index(other[part]) for part, order in ORDERS.items())


def wider(dice, scheme):
    """Return some scheme that this one is within."""
    return dice.choice([other for other in SCHEMES if is_wider(scheme, other)])


def told(house, run):
    """Return the events of a run of any length, and the questions that it shows, by the model."""
    model, events, shows = Model(house), [], set()
    for step in run:
        assert model.can(step), (house, step)
        more, shown = model.do(step)
        events += more
        shows |= shown
    return events, shows


class SchemeWithin(unittest.TestCase):
    def test_all_pairs(self):
        found = [scheme_within(scheme, other) for scheme, other in itertools.product(SCHEMES, repeat=2)]
        self.assertEqual(found, [is_wider(scheme, other) for scheme, other in itertools.product(SCHEMES, repeat=2)])
        # Three ways for each of three flags, two for what is refused, five for the notes.
        self.assertEqual(found.count(True), 27 * 2 * 5)

    def test_each_of_the_five_parts_apart(self):
        base = (False, True, "back", "with", True)
        for part, other, within, around in (
            (0, True, True, False), (1, False, True, False), (2, "lost", False, False), (3, "behind", True, False),
            (3, "first", True, False), (4, False, True, False),
        ):
            scheme = base[:part] + (other,) + base[part + 1:]
            self.assertIs(scheme_within(base, scheme), within)
            self.assertIs(scheme_within(scheme, base), around)
        for notes, other in (("behind", "first"), ("first", "behind")):
            self.assertIs(scheme_within(base[:3] + (notes, True), base[:3] + (other, True)), False)

    def test_each_scheme_is_within_itself(self):
        for scheme in SCHEMES:
            self.assertIs(scheme_within(scheme, scheme), True)

    def test_what_is_shown_is_shown_by_a_wider_scheme(self):
        dice = random.Random(27)
        shown = 0
        for _ in range(150):
            case = random_case(dice, 4)
            scheme = wider(dice, case[0])
            for question in ASKED:
                if answer_to(case, question)[0] == "run":
                    shown += 1
                    self.assertEqual(answer_to((scheme,) + case[1:], question)[0], "run", (case, scheme))
        self.assertGreater(shown, 30)


class CarriedRun(unittest.TestCase):
    def carries(self, case, scheme, text, expected):
        carried = carried_run(case, scheme, steps_of(text))
        self.assertEqual(carried, steps_of(expected))
        self.assertEqual(events_of(house_of((scheme,) + case[1:]), carried), events_of(house_of(case), steps_of(text)))

    def test_to_the_same_scheme(self):
        for case in (EXAMPLE, HANDED, IN_HAND):
            self.carries(case, case[0], "", "")
            self.carries(case, case[0], "learn 0; send 0 0; arrive 0 0; word", "learn 0; send 0 0; arrive 0 0; word")
        self.carries(EXAMPLE, EXAMPLE[0], "learn 0; send 0 0; arrive 0 0; take 0", "learn 0; send 0 0; arrive 0 0; take 0")
        text = "learn 0; send 0 0; arrive 0 0; take 0; hand 0; take 0; note 0"
        self.carries(HANDED, HANDED[0], text, text)
        text = "learn 0; send 0 0; arrive 0 0; note 0; take 0"
        self.carries(IN_HAND, IN_HAND[0], text, text)

    def test_to_notes_behind_and_first(self):
        text = "learn 0; send 0 0; arrive 0 0; send 0 0; take 0; word; arrive 0 1; take 0"
        scheme = EXAMPLE[0][:3] + ("behind", False)
        self.carries(EXAMPLE, scheme, text, text.replace("take 0", "take 0; note 0"))
        scheme = EXAMPLE[0][:3] + ("first", False)
        self.carries(EXAMPLE, scheme, text, text.replace("take 0", "note 0; take 0"))

    def test_to_a_scheme_that_asks_and_is_piped(self):
        text = "learn 0; send 0 0; word; word; learn 1; arrive 0 0; send 1 0; arrive 0 1; take 1; take 0"
        self.carries(EXAMPLE, (True, False, "back", "with", False), text, text)

    def test_a_take_becomes_two_steps(self):
        text = "learn 0; send 0 0; arrive 0 0; take 0; send 0 0; arrive 0 1; take 0"
        run = steps_of(text)
        case = ((True, False, "back", "with", False), ("show", "tell", "close") + ("show",), (1, 1, 1), (0, 0, 0))
        # No run of a case with the notes "with" has two hundred steps; all that is done in one stays below that.
        longest = max((random_run(random.Random(seed), house_of(case), 200) for seed in range(60)), key=len)
        self.assertLess(len(longest), 60)
        for run in (run, longest):
            for notes in ("behind", "first"):
                scheme = case[0][:3] + (notes, False)
                carried = carried_run(case, scheme, run)
                takes = len([step for step in run if step[0] == "take"])
                self.assertEqual(len(carried), len(run) + takes)
                self.assertEqual(told(house_of((scheme,) + case[1:]), carried), told(house_of(case), run))

    def test_a_run_of_two_hundred_steps(self):
        run = steps_of("learn 0; send 0 0; arrive 0 0; " + "take 0; hand 0; " * 98 + "take 0")
        self.assertEqual(len(run), 200)
        scheme = (True, False) + HANDED[0][2:]
        self.assertEqual(carried_run(HANDED, scheme, run), run)
        with self.assertRaises(BadStep) as caught:
            carried_run(HANDED, scheme, run + [("hand", 0)])
        self.assertEqual(caught.exception.place, 200)

    def test_random_runs_have_the_same_events(self):
        dice = random.Random(28)
        shown = []
        for _ in range(900):
            case = random_case(dice)
            scheme = wider(dice, case[0])
            run = random_run(dice, house_of(case), dice.choice((20, 60)))
            carried = carried_run(case, scheme, run)
            small, great = house_of(case), house_of((scheme,) + case[1:])
            self.assertEqual(events_of(great, carried), events_of(small, run))
            for question in ASKED:
                self.assertIs(run_shows(great, question, carried), run_shows(small, question, run))
                shown.append(run_shows(small, question, run))
            if case[0][3] == scheme[3]:
                self.assertEqual(carried, run)
        self.assertGreater(shown.count(True), 50)

    def test_the_order_of_the_errors(self):
        narrow, wide = EXAMPLE, (True,) + EXAMPLE[0][1:]
        asking = (wide,) + EXAMPLE[1:]
        bad_run = [("take", 0)]
        self.assertIs(error_of(carried_run, (None, None, bad_run)), BadCase)
        self.assertIs(error_of(carried_run, (asking, None, bad_run)), BadScheme)
        self.assertIs(error_of(carried_run, (asking, narrow[0], bad_run)), NotWithin)
        self.assertIs(error_of(carried_run, (asking, narrow[0], [])), NotWithin)
        self.assertIs(error_of(carried_run, (narrow, wide, bad_run)), BadStep)
        for scheme, other in itertools.product(SCHEMES[::5], SCHEMES[::3]):
            error = None if is_wider(scheme, other) else NotWithin
            self.assertIs(error_of(carried_run, ((scheme,) + EXAMPLE[1:], other, [])), error)

    def test_the_place_of_a_bad_step(self):
        run = steps_of("learn 0; send 0 0; arrive 0 0; take 0")
        for place in range(len(run) + 1):
            with self.assertRaises(BadStep) as caught:
                carried_run(EXAMPLE, EXAMPLE[0][:3] + ("behind", True), run[:place] + [("note", 0)] + run[place:])
            self.assertEqual(caught.exception.place, place)

    def test_what_is_passed_stays(self):
        run = steps_of("learn 0; send 0 0; arrive 0 0; take 0")
        carried = carried_run(EXAMPLE, EXAMPLE[0], run)
        self.assertIsNot(carried, run)
        carried.clear()
        self.assertEqual(run, steps_of("learn 0; send 0 0; arrive 0 0; take 0"))


class SchemeWithinArguments(Refusals, unittest.TestCase):
    function = [scheme_within]
    goods = [(EXAMPLE[0], HANDED[0]), (HANDED[0], EXAMPLE[0])]

    def wrongs(self, good):
        scheme, other = good
        return [("scheme", BadScheme, bad_schemes(scheme)), ("other", BadScheme, bad_schemes(other))]


class CarriedRunArguments(Refusals, unittest.TestCase):
    function = [carried_run]
    goods = [
        (EXAMPLE, (True, True, "back", "first", True), steps_of("learn 0; send 0 0; arrive 0 0; take 0")),
        (case_of("show"), case_of("show")[0], []),
    ]

    def wrongs(self, good):
        return [
            ("case", BadCase, bad_cases(good[0])), ("scheme", BadScheme, bad_schemes(good[1])), ("run", BadStep, bad_runs()),
        ]


if __name__ == "__main__":
    unittest.main()
