"""Points 9 and 15: the first state, runs and what is none, and random runs held against the model."""

import random
import unittest

from model import Model, random_house, random_run
from refusals import Refusals, error_of
from running import built
from things import bad_houses, bad_runs, bad_steps, steps_of

from lanescounted.errors import BadHouse, BadStep
from lanescounted.runs import events_of, possible_steps, state_after

HOUSE = built("show tell open", (2, 3), ((0, 2), (1, 1)), (2, 3), 3, notes="behind", steady=False)
RUN = steps_of("learn 0; send 0 0; arrive 0 0; take 0; hand 0; learn 1; word; send 1 1; word; hear 1; word; arrive 1 0")
SMALL = built("show open")
FUNCTIONS = (possible_steps, events_of, state_after)
# From here on it goes round: a letter is taken and handed over, again and again.
TURNING = built("show", notes="behind", steady=False)
TURNED = steps_of("learn 0; send 0 0; arrive 0 0; " + "take 0; hand 0; " * 98 + "take 0")


class FirstState(unittest.TestCase):
    def test_nothing_was_done(self):
        house = built("show", (2, 3), ((0, 0), (1, 1)), (2, 3), 3)
        empty = ((), (), ())
        self.assertEqual(state_after(house, []), (0, (-1, -1, -1), (), (), empty, (0, 0, 0), (0, 0), (), ()))
        house = built("show", (4, 1), ((0, 0),), (1,), 1, notes="first")
        empty = ((), (), (), ())
        self.assertEqual(state_after(house, []), (0, (-1,), (), (), empty, empty, (0,), (), ()))

    def test_each_part_is_a_tuple_or_an_integer(self):
        for house, run in ((HOUSE, RUN), (HOUSE, []), (SMALL, []), (TURNING, TURNED)):
            place, *parts = state_after(house, run)
            self.assertIs(type(place), int)
            self.assertEqual([type(part) for part in parts], [tuple] * 8)

    def test_first_steps(self):
        self.assertEqual(possible_steps(HOUSE, []), [("learn", 0), ("learn", 1), ("learn", 2), ("word",)])
        self.assertEqual(possible_steps(SMALL, []), [("learn", 0), ("learn", 1), ("word",)])
        self.assertEqual(events_of(SMALL, []), [])


class Runs(unittest.TestCase):
    def test_a_run_of_each_kind_of_step(self):
        self.assertEqual(state_after(HOUSE, RUN), (
            3, (0, 1, -1), (), (), (((0, 0, 0),), ((1, 0, 0),), ()), (0, 0, 0), (1, 1), ((0, 0),), (),
        ))
        self.assertEqual(events_of(HOUSE, RUN), [("take", 0, 0, 0)])
        self.assertEqual(possible_steps(HOUSE, RUN), [
            ("hear", 0), ("learn", 2), ("send", 0, 0), ("send", 0, 1), ("send", 1, 0), ("send", 1, 1),
            ("take", 0), ("take", 1),
        ])

    def test_the_example_of_the_document(self):
        house = built("show open")
        text = "learn 0; send 0 0; word; word; learn 1; arrive 0 0; send 1 0; arrive 0 1; take 1; take 0"
        self.assertEqual(events_of(house, steps_of(text)), [("take", 1, 0, 1), ("take", 0, 0, 0)])
        self.assertEqual(state_after(house, steps_of(text))[7], ((0, 0), (0, 1)))

    def test_two_hundred_steps_are_a_run(self):
        self.assertEqual(len(TURNED), 200)
        self.assertEqual(len(events_of(TURNING, TURNED)), 99)
        self.assertEqual(state_after(TURNING, TURNED)[5], (1, 0))
        steps = [("hand", 0), ("learn", 1), ("note", 0), ("send", 0, 0), ("word",)]
        self.assertEqual(possible_steps(TURNING, TURNED), steps)

    def test_two_hundred_and_one_are_none(self):
        for step in possible_steps(TURNING, TURNED):
            self.check_place(TURNING, TURNED + [step], 200)
        self.check_place(TURNING, TURNED + steps_of("hand 0; take 0; hand 0"), 200)
        self.check_place(TURNING, TURNED + [None], 200)

    def test_an_entry_ahead_of_the_two_hundredth_comes_first(self):
        for place in (0, 3, 100, 199):
            run = TURNED[:place] + [("note", 1)] + TURNED[place:] + [("hand", 0)]
            self.check_place(TURNING, run, place)

    def check_place(self, house, run, place):
        for function in FUNCTIONS:
            with self.assertRaises(BadStep) as caught:
                function(house, run)
            self.assertEqual(caught.exception.place, place)

    def test_the_first_entry_that_cannot_be_taken_is_told(self):
        for place in range(len(RUN) + 1):
            for step in bad_steps():
                self.check_place(HOUSE, RUN[:place] + [step] + RUN[place:], place)
            self.check_place(HOUSE, RUN[:place] + [("learn", 0)] * 2 + [None], place if place else 1)

    def test_what_is_no_list_has_place_0(self):
        for thing in bad_runs():
            self.check_place(HOUSE, thing, 0)
        self.check_place(HOUSE, tuple(RUN), 0)
        self.check_place(HOUSE, {0: ("word",)}, 0)

    def test_true_stands_for_no_number(self):
        for place, step in enumerate(RUN):
            for index, part in enumerate(step):
                if part in (0, 1):
                    self.check_place(HOUSE, replaced_step(RUN, place, index, bool(part)), place)
                if index:
                    self.check_place(HOUSE, replaced_step(RUN, place, index, str(part)), place)

    def test_a_list_stands_for_no_step(self):
        for place, step in enumerate(RUN):
            self.check_place(HOUSE, RUN[:place] + [list(step)] + RUN[place + 1:], place)

    def test_steps_of_numbers_that_the_house_does_not_have(self):
        for step in ("learn 2", "send 0 1", "arrive 1 0", "arrive 0 1", "take 2", "note 2", "hand 2", "again 1 0"):
            self.check_place(SMALL, steps_of("learn 0; send 0 0; word; " + step), 3)

    def test_nothing_that_is_passed_is_changed_or_kept(self):
        for function in FUNCTIONS:
            run = list(RUN)
            first = function(HOUSE, run)
            self.assertEqual(run, RUN)
            run.clear()
            self.assertEqual(function(HOUSE, list(RUN)), first)

    def test_a_list_that_stands_in_the_place_of_a_run_is_left_as_it_is(self):
        run = RUN + [("word",), ["word"]]
        self.assertIs(error_of(state_after, (HOUSE, run)), BadStep)
        self.assertEqual(run, RUN + [("word",), ["word"]])


def replaced_step(run, place, index, part):
    """Return a run with one part of one step exchanged."""
    step = run[place]
    return run[:place] + [step[:index] + (part,) + step[index + 1:]] + run[place + 1:]


class RandomRuns(unittest.TestCase):
    def test_steps_states_and_events_are_those_of_the_model(self):
        dice = random.Random(15)
        told = []
        for _ in range(1200):
            house = random_house(dice)
            run = random_run(dice, house, dice.choice((10, 40, 200)))
            model, events = Model(house), []
            for place, step in enumerate(run):
                if place % 9 == 0:
                    self.assertEqual(possible_steps(house, run[:place]), model.steps())
                    self.assertEqual(state_after(house, run[:place]), model.state())
                events += model.do(step)[0]
            self.assertEqual(possible_steps(house, run), model.steps())
            self.assertEqual(state_after(house, run), model.state())
            self.assertEqual(events_of(house, run), events)
            told += [event[0] for event in events]
        for word in ("take", "refuse", "late", "lost"):
            self.assertGreater(told.count(word), 100)

    def test_no_other_step_can_be_taken(self):
        dice = random.Random(16)
        forms = [(word, *numbers) for word in ("learn", "hear", "take", "note", "hand", "send", "again", "arrive", "word")
                 for numbers in [(), *[(a,) for a in range(4)], *[(a, b) for a in range(3) for b in range(3)]]]
        for _ in range(60):
            house = random_house(dice)
            run = random_run(dice, house, 30)
            good = Model(house)
            for step in run:
                good.do(step)
            for step in forms:
                possible = step in good.steps()
                error = error_of(state_after, (house, run + [step]))
                self.assertIs(error, None if possible else BadStep, (house, run, step))


class RunArguments(Refusals):
    goods = [(HOUSE, RUN), (HOUSE, []), (SMALL, RUN[:3]), (TURNING, TURNED)]

    def wrongs(self, good):
        return [("house", BadHouse, bad_houses(good[0])), ("run", BadStep, bad_runs())]


class PossibleStepsArguments(RunArguments, unittest.TestCase):
    function = [possible_steps]


class EventsOfArguments(RunArguments, unittest.TestCase):
    function = [events_of]


class StateAfterArguments(RunArguments, unittest.TestCase):
    function = [state_after]


if __name__ == "__main__":
    unittest.main()
