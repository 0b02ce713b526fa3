"""Points 30 and 31: live houses."""

import random
import unittest
from unittest import mock

from cases import EXAMPLE, HANDED
from model import Model, random_house, random_run
from refusals import error_of
from running import built
from things import ALL_QUESTIONS, bad_houses, bad_integers, bad_questions, bad_runs, bad_steps, steps_of

from lanescounted.errors import BadHouse, BadLane, BadQuestion, BadStep, NothingToUndo, TooMany
from lanescounted.houses import house_of
from lanescounted.live import House
from lanescounted.questions import run_shows
from lanescounted.runs import events_of, possible_steps, state_after

ASKED = ALL_QUESTIONS[:4]
SMALL = house_of(EXAMPLE)
WIDE = built("show close drain open drop", (2, 3), ((0, 2), (1, 1)), (2, 3), 2, notes="behind", steady=False)
TURNING = house_of(HANDED)
RUN = steps_of("learn 0; send 0 0; word; word; learn 1; arrive 0 0; send 1 0; arrive 0 1; take 1; take 0")
EVENTS = [("take", 1, 0, 1), ("take", 0, 0, 0)]


def lived(house, run):
    """Return a live house that took the steps of a run."""
    live = House(house)
    for step in run:
        live.take_step(step)
    return live


def told(live):
    """Return all that a live house tells."""
    lanes = [live[lane] for lane in range(len(live.state()[4]))]
    shown = [live.shows(question) for question in ASKED]
    return (live.run(), live.steps(), live.events(), live.state(), len(live), lanes, live.words, shown)


def grown(house, more):
    """Return the house with more senders."""
    return house[:5] + (house[5] + more,)


class Tests(unittest.TestCase):
    def check(self, live, house, run, letting_in=0):
        """Test that a live house tells what the functions tell of a house and a run."""
        self.assertEqual(live.run(), run)
        self.assertEqual(live.steps(), possible_steps(house, run))
        self.assertEqual(live.state(), state_after(house, run))
        self.assertEqual(live.events(), events_of(house, run))
        self.assertEqual(len(live), len(run) + letting_in)
        self.assertEqual(live.words, run.count(("word",)))
        for question in ASKED:
            self.assertIs(live.shows(question), run_shows(house, question, run))
        for lane, letters in enumerate(state_after(house, run)[4]):
            self.assertEqual(live[lane], tuple(letter[:2] for letter in letters))

    def stays(self, live, error, function, *arguments):
        """Test that a call raises an error and changes nothing; return the error."""
        before, other = told(live), live.copy()
        with self.assertRaises(error) as caught:
            function(*arguments)
        self.assertEqual(told(live), before)
        self.assertEqual(live, other)
        return caught.exception


class Steps(Tests):
    def test_at_first(self):
        for house in (SMALL, WIDE, TURNING):
            live = House(house)
            self.check(live, house, [])
            self.assertEqual((live.run(), live.events(), len(live), live.words), ([], [], 0, 0))
            self.assertEqual(live[0], ())

    def test_the_example_of_the_document(self):
        live = House(SMALL)
        events = [live.take_step(step) for step in RUN]
        self.assertEqual(events, [[]] * 8 + [[EVENTS[0]], [EVENTS[1]]])
        self.check(live, SMALL, RUN)
        self.assertEqual([live.shows(question) for question in ASKED], [True, False, False, False])

    def test_random_runs(self):
        dice = random.Random(30)
        for _ in range(250):
            house = random_house(dice)
            run = random_run(dice, house, dice.choice((8, 30, 90)))
            live, model = House(house), Model(house)
            for number, step in enumerate(run):
                if number % 7 == 0:
                    self.check(live, house, run[:number])
                self.assertIn(step, live.steps())
                self.assertEqual(live.take_step(step), model.do(step)[0])
            self.check(live, house, run)

    def test_a_step_that_cannot_be_taken(self):
        for house, run in ((SMALL, []), (SMALL, RUN[:6]), (WIDE, []), (TURNING, steps_of("learn 0; send 0 0; arrive 0 0"))):
            live = lived(house, run)
            for step in bad_steps() + steps_of("take 3; learn 2; send 2 0; arrive 0 1; again 0 0; hear 0"):
                self.assertEqual(self.stays(live, BadStep, live.take_step, step).place, 0)

    def test_more_than_two_hundred_steps(self):
        live, model = House(TURNING), Model(TURNING)
        run = steps_of("learn 0; send 0 0; arrive 0 0; " + "take 0; hand 0; " * 300)
        for step in run:
            self.assertEqual(live.take_step(step), model.do(step)[0])
        self.assertEqual((len(live), live.run()), (603, run))
        self.assertEqual((live.state(), live.steps()), (model.state(), model.steps()))
        self.assertEqual(live.events(), [("take", 0, 0, 0)] * 300)
        self.assertIs(live.shows("twice"), True)
        self.assertIs(live.shows("order"), False)
        live.try_all(run[3:])
        self.assertEqual(len(live), 1203)
        for _ in range(1203):
            live.undo()
        self.check(live, TURNING, [])

    def test_lists_that_are_returned_are_new(self):
        live = lived(SMALL, RUN[:8])
        for method, kept in ((live.run, RUN[:8]), (live.events, []), (live.steps, possible_steps(SMALL, RUN[:8]))):
            method().append("changed")
            method().clear()
            self.assertEqual(method(), kept)
        live.take_step(RUN[8]).clear()
        self.assertEqual(live.events(), EVENTS[:1])
        live.settle().append(("word",))
        self.check(live, SMALL, RUN)


class Undo(Tests):
    def test_nothing_to_undo(self):
        for house in (SMALL, WIDE):
            live = House(house)
            self.stays(live, NothingToUndo, live.undo)
            live.take_step(("learn", 0))
            self.assertIsNone(live.undo())
            self.stays(live, NothingToUndo, live.undo)

    def test_each_step_of_random_runs(self):
        dice = random.Random(31)
        for _ in range(80):
            house = random_house(dice)
            run = random_run(dice, house, 40)
            live = lived(house, run)
            for number in range(len(run) - 1, -1, -1):
                self.assertIsNone(live.undo())
                self.assertEqual(len(live), number)
                if number % 5 == 0:
                    self.check(live, house, run[:number])
            self.stays(live, NothingToUndo, live.undo)

    def test_another_step_behind_one_that_is_undone(self):
        live = lived(SMALL, RUN)
        live.undo()
        live.undo()
        live.take_step(("take", 0))
        live.take_step(("take", 1))
        self.check(live, SMALL, RUN[:8] + [("take", 0), ("take", 1)])
        self.assertIs(live.shows("order"), False)

    def test_a_sender_that_was_let_in(self):
        live = lived(SMALL, RUN[:3])
        live.add_sender()
        live.take_step(("learn", 2))
        self.assertIsNone(live.undo())
        self.check(live, grown(SMALL, 1), RUN[:3], 1)
        live.undo()
        self.check(live, SMALL, RUN[:3])
        live.undo()
        self.check(live, SMALL, RUN[:2])

    def test_steps_of_settle_and_of_try_all_are_undone_alone(self):
        live = lived(SMALL, RUN[:2])
        self.assertEqual(live.settle(), steps_of("arrive 0 0; take 0"))
        live.undo()
        self.check(live, SMALL, RUN[:2] + [("arrive", 0, 0)])
        live.undo()
        self.check(live, SMALL, RUN[:2])
        live.try_all(RUN[2:5])
        live.undo()
        self.check(live, SMALL, RUN[:4])


class Settle(Tests):
    def settled(self, house, text, expected):
        live = lived(house, steps_of(text))
        self.assertEqual(live.settle(), steps_of(expected))
        self.check(live, house, steps_of(text) + steps_of(expected))
        self.assertEqual(live.settle(), [])
        self.check(live, house, steps_of(text) + steps_of(expected))

    def test_nothing_to_settle(self):
        self.settled(SMALL, "", "")
        self.settled(SMALL, "learn 0; word", "")

    def test_arrive_then_note_then_take(self):
        self.settled(SMALL, "learn 0; send 0 0; arrive 0 0; send 0 0", "arrive 0 1; take 0; take 0")
        house = built("show", notes="behind")
        self.settled(house, "learn 0; send 0 0; arrive 0 0; send 0 0", "arrive 0 1; take 0; note 0; take 0; note 0")
        house = built("show", notes="first")
        self.settled(house, "learn 0; send 0 0; arrive 0 0; send 0 0", "arrive 0 1; note 0; take 0; note 0; take 0")
        house = built("show open", (2, 2), ((0, 1), (0, 1)), notes="first")
        self.settled(house, "learn 0; send 0 0; word; word; learn 1; send 1 1",
                     "arrive 0 0; arrive 1 0; note 0; note 1; take 0; take 1")

    def test_letters_that_are_refused_are_not_sent_again(self):
        self.settled(built("show close open"), "learn 0; send 0 0; word; word; word; learn 0", "arrive 0 0")

    def test_lanes_that_cannot_be_read(self):
        self.settled(built("show tell"), "word; word; learn 0; send 0 0", "arrive 0 0")

    def test_random_houses(self):
        dice = random.Random(32)
        for _ in range(200):
            house = random_house(dice)
            run = random_run(dice, house, 30)
            model = Model(house)
            for step in run:
                model.do(step)
            expected = []
            while ready := [step for step in model.steps() if step[0] in ("arrive", "note", "take")]:
                expected.append(ready[0])
                model.do(ready[0])
            live = lived(house, run)
            self.assertEqual(live.settle(), expected)
            self.check(live, house, run + expected)


class TryAll(Tests):
    def test_all_steps_are_taken(self):
        live = House(SMALL)
        self.assertIsNone(live.try_all([]))
        self.check(live, SMALL, [])
        self.assertIsNone(live.try_all(RUN[:4]))
        self.check(live, SMALL, RUN[:4])
        live.try_all(RUN[4:])
        self.check(live, SMALL, RUN)

    def test_the_index_of_the_first_one_that_cannot_be_taken(self):
        for begun in (0, 3, 6):
            live = lived(SMALL, RUN[:begun])
            for place in range(len(RUN) - begun + 1):
                for step in (("take", 3), ("note", 0), None, ["word"], ("word", 0)):
                    steps = RUN[begun:begun + place] + [step] + RUN[begun + place:]
                    self.assertEqual(self.stays(live, BadStep, live.try_all, steps).place, place)
                    self.assertEqual(self.stays(live, BadStep, live.try_all, steps + [None]).place, place)

    def test_what_is_no_list(self):
        live = lived(SMALL, RUN[:2])
        for thing in bad_runs():
            self.assertEqual(self.stays(live, BadStep, live.try_all, thing).place, 0)
        self.assertEqual(self.stays(live, BadStep, live.try_all, tuple(RUN[2:])).place, 0)

    def test_more_than_two_hundred_steps(self):
        live = House(TURNING)
        run = steps_of("learn 0; send 0 0; arrive 0 0; " + "take 0; hand 0; " * 200)
        live.try_all(run)
        self.assertEqual((len(live), live.run()), (403, run))
        self.assertEqual(self.stays(live, BadStep, live.try_all, run[3:] + [("hand", 0)]).place, 400)

    def test_what_is_passed_stays(self):
        live, steps = House(SMALL), list(RUN)
        live.try_all(steps)
        self.assertEqual(steps, RUN)
        steps.clear()
        self.check(live, SMALL, RUN)

    def test_a_run_of_its_own(self):
        live = lived(TURNING, steps_of("learn 0; send 0 0; arrive 0 0; take 0; hand 0"))
        live.try_all(live.run()[3:])
        self.assertEqual(live.run(), steps_of("learn 0; send 0 0; arrive 0 0; take 0; hand 0; take 0; hand 0"))


class AddSender(Tests):
    def test_its_number(self):
        for senders in (1, 2, 3):
            live = House(built("show", senders=senders))
            for number in range(senders, 3):
                self.assertEqual(live.add_sender(), number)
            self.stays(live, TooMany, live.add_sender)
            self.assertEqual(len(live), 3 - senders)
            self.assertEqual(live.run(), [])

    def test_it_holds_no_edition(self):
        live = lived(SMALL, RUN[:6])
        self.assertEqual(live.add_sender(), 2)
        self.assertEqual(live.state()[1], (0, 1, -1))
        self.check(live, grown(SMALL, 1), RUN[:6], 1)
        self.assertIn(("learn", 2), live.steps())
        self.assertEqual(live.take_step(("learn", 2)), [])
        self.assertEqual(live.state()[1], (0, 1, 1))

    def test_the_house_goes_on_as_one_with_more_senders(self):
        dice = random.Random(33)
        for _ in range(120):
            house = random_house(dice)[:5] + (dice.choice((1, 2)),)
            run = random_run(dice, house, 20)
            live = lived(house, run)
            more = dice.randint(1, 3 - house[5])
            for _ in range(more):
                live.add_sender()
            self.check(live, grown(house, more), run, more)
            for _ in range(20):
                if live.steps():
                    run = run + [dice.choice(live.steps())]
                    live.take_step(run[-1])
            self.check(live, grown(house, more), run, more)

    def test_too_many_changes_nothing(self):
        live = lived(built("show", senders=3), steps_of("learn 2; word"))
        self.stays(live, TooMany, live.add_sender)


class Asking(Tests):
    def test_questions(self):
        live = lived(SMALL, RUN)
        for question in bad_questions(ASKED):
            self.stays(live, BadQuestion, live.shows, question)

    def test_what_is_shown_stays_shown(self):
        live = lived(SMALL, RUN[:9])
        self.assertIs(live.shows("order"), True)
        live.take_step(RUN[9])
        live.add_sender()
        self.assertIs(live.shows("order"), True)

    def test_lanes(self):
        live = lived(SMALL, RUN[:8])
        self.assertEqual((live[0], live[1]), (((0, 0),), ((0, 1),)))
        self.assertIs(type(live[0]), tuple)
        for lane in bad_integers(0, 1) + [slice(0, 1), -2, 3]:
            self.stays(live, BadLane, live.__getitem__, lane)

    def test_letters_that_are_not_noted(self):
        live = lived(built("show", notes="behind"), steps_of("learn 0; send 0 0; arrive 0 0; send 0 0; arrive 0 1; take 0"))
        self.assertEqual(live[0], ((0, 0), (0, 1)))
        live.take_step(("note", 0))
        self.assertEqual(live[0], ((0, 1),))

    def test_a_house_has_as_many_lanes_as_its_greatest_count(self):
        for counts in ((1, 4), (4, 1), (2, 3)):
            live = House(built("show", counts, ((0, 0),)))
            for lane in range(5):
                error = error_of(live.__getitem__, (lane,))
                self.assertIs(error, None if lane < max(counts) else BadLane)

    def test_words(self):
        live = House(WIDE)
        for number in range(5):
            self.assertEqual(live.words, number)
            live.take_step(("word",))
        self.assertEqual(live.words, 5)
        self.assertIs(type(live.words), int)

    def test_a_house_is_not_iterated(self):
        with self.assertRaises(TypeError):
            list(House(SMALL))

    def test_what_is_no_house(self):
        for house in (SMALL, WIDE):
            for thing in bad_houses(house):
                self.assertIs(error_of(House, (thing,)), BadHouse)
        self.assertIs(error_of(House, (House(SMALL),)), BadHouse)

    def test_by_name(self):
        live = House(house=SMALL)
        self.assertEqual(live.take_step(step=("learn", 0)), [])
        live.try_all(steps=RUN[1:9])
        self.assertIs(live.shows(question="order"), True)


class Equality(Tests):
    def alike(self, one, other):
        self.assertIs(one == other, True)
        self.assertIs(one != other, False)

    def unlike(self, one, other):
        self.assertIs(one == other, False)
        self.assertIs(other == one, False)
        self.assertIs(one != other, True)

    def test_the_same_house_and_steps(self):
        self.alike(House(SMALL), House(SMALL))
        self.alike(lived(SMALL, RUN), lived(SMALL, RUN))
        live = lived(SMALL, RUN)
        self.alike(live, live)

    def test_however_the_steps_were_taken(self):
        live = House(SMALL)
        live.try_all(RUN[:2])
        live.settle()
        self.alike(live, lived(SMALL, RUN[:2] + steps_of("arrive 0 0; take 0")))

    def test_what_is_undone_does_not_count(self):
        live = lived(SMALL, RUN)
        live.undo()
        self.alike(live, lived(SMALL, RUN[:-1]))
        live.add_sender()
        live.undo()
        self.alike(live, lived(SMALL, RUN[:-1]))

    def test_other_steps_or_another_order(self):
        self.unlike(lived(SMALL, RUN), lived(SMALL, RUN[:-1]))
        self.unlike(lived(SMALL, RUN), House(SMALL))
        one, other = steps_of("learn 0; learn 1"), steps_of("learn 1; learn 0")
        self.assertEqual(state_after(SMALL, one), state_after(SMALL, other))
        self.unlike(lived(SMALL, one), lived(SMALL, other))

    def test_senders_that_were_let_in_count_in_their_order(self):
        one, other = House(SMALL), House(SMALL)
        one.add_sender()
        self.unlike(one, other)
        # The houses are compared as they were at first.
        self.unlike(one, House(grown(SMALL, 1)))
        other.take_step(("word",))
        one.take_step(("word",))
        other.add_sender()
        self.assertEqual(one.state(), other.state())
        self.unlike(one, other)
        one.undo()
        one.undo()
        one.take_step(("word",))
        one.add_sender()
        self.alike(one, other)

    def test_other_houses(self):
        for part, other in ((0, WIDE[0]), (1, ("show", "tell")), (2, (1, 3)), (3, ((0, 0),)), (4, (3,)), (5, 1)):
            self.unlike(House(SMALL), House(SMALL[:part] + (other,) + SMALL[part + 1:]))

    def test_nothing_else(self):
        live = lived(SMALL, RUN)
        for thing in (SMALL, RUN, live.state(), None, 0, 10, "", (), [], object(), House, live.run):
            self.unlike(live, thing)
        self.assertIs(live == mock.ANY, False)


class Copies(Tests):
    def test_a_copy_is_equal_and_another_one(self):
        for run in ([], RUN[:4], RUN):
            live = lived(SMALL, run)
            other = live.copy()
            self.assertIs(type(other), House)
            self.assertIsNot(other, live)
            self.assertEqual(other, live)
            self.assertEqual(told(other), told(live))

    def test_what_is_done_to_one_does_not_change_the_other(self):
        for deed in (
            lambda live: live.take_step(("take", 0)), lambda live: live.undo(), lambda live: live.settle(),
            lambda live: live.try_all([("take", 1), ("take", 0)]), lambda live: live.add_sender(),
        ):
            live = lived(SMALL, RUN[:8])
            other = live.copy()
            before = told(live)
            deed(other)
            self.assertEqual(told(live), before)
            self.assertNotEqual(live, other)
            other = live.copy()
            deed(live)
            self.assertEqual(told(other), before)
            self.assertNotEqual(live, other)

    def test_a_copy_of_a_house_with_a_sender_let_in(self):
        live = lived(SMALL, RUN[:2])
        live.add_sender()
        other = live.copy()
        self.assertEqual(other, live)
        self.assertEqual(self.stays(other, TooMany, other.add_sender).args, self.stays(live, TooMany, live.add_sender).args)
        for one in (live, other):
            one.undo()
            self.check(one, SMALL, RUN[:2])


if __name__ == "__main__":
    unittest.main()
