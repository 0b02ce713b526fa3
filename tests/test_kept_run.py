"""Point 26: runs with waits put in, each as early as it can be done."""

import itertools
import random
import unittest

from cases import EXAMPLE, HANDED, case_of
from model import Model, random_case, random_run
from refusals import Refusals, error_of
from spots import all_spots, bad_lots, put_in, with_lot
from things import bad_cases, bad_runs, steps_of

from lanescounted.errors import BadCase, BadSpot, BadStep, TooMany
from lanescounted.houses import house_of
from lanescounted.runs import events_of, state_after
from lanescounted.waits import kept_run, with_waits

SENT = "learn 0; send 0 0; arrive 0 0; "
CLOSED = case_of("show close open")
DRAIN = ((2, "drain"),)


def is_run(case, steps):
    """Tell whether a list of any length is a run of a case, by the model."""
    model = Model(house_of(case))
    for step in steps:
        if not model.can(step):
            return False
        model.do(step)
    return True


def places_of(run):
    """Return the place of the plan ahead of each step of a run, and behind the last one."""
    return [run[:number].count(("word",)) for number in range(len(run) + 1)]


def kept_by_trying(case, run, lot):
    """Return the kept run, found by trying each index of the run for each wait, None for a wait that is left out."""
    places = places_of(run)
    last = places[-1]
    waits = [place for place, _ in lot if place <= last]
    # A wait of a place stands at an index at which the run is at this place; one of the last place may be left out.
    rooms = [[number for number, other in enumerate(places) if other == place] + [len(run) + 1] * (place == last)
             for place in waits]
    for indexes in itertools.product(*rooms):
        put = [number for number in indexes if number <= len(run)]
        if list(indexes) != sorted(indexes):
            continue
        kept = []
        for number in range(len(run) + 1):
            kept += [("word",)] * put.count(number) + run[number:number + 1]
        if is_run(with_lot(case, lot), kept) and places_hold(case[1], lot, run, put):
            return kept
    return None


def places_hold(plan, lot, run, put):
    """Tell whether with waits at these indexes the words of the run are still those of the plan."""
    words = iter(put_in(plan, lot))
    waits = [word for _, word in lot]
    for number in range(len(run) + 1):
        for _ in range(put.count(number)):
            if next(words) != waits.pop(0):
                return False
        if run[number:number + 1] == [("word",)] and next(words) != plan[run[:number].count(("word",))]:
            return False
    return True


class Examples(unittest.TestCase):
    def keeps(self, case, text, lot, expected):
        kept = kept_run(case, steps_of(text), lot)
        self.assertEqual(kept, None if expected is None else steps_of(expected), (text, lot))
        if kept is not None:
            self.assertTrue(is_run(with_lot(case, lot), kept))

    def test_without_waits_the_run_is_kept_as_it_is(self):
        self.keeps(CLOSED, "", (), "")
        self.keeps(CLOSED, SENT + "word; take 0", (), SENT + "word; take 0")

    def test_as_early_as_it_can_be_done(self):
        self.keeps(CLOSED, SENT + "word; word; take 0; learn 1; word", DRAIN,
                   SENT + "word; word; take 0; word; learn 1; word")
        self.keeps(CLOSED, SENT + "word; take 0; word; learn 1; word", DRAIN,
                   SENT + "word; take 0; word; word; learn 1; word")

    def test_ahead_of_the_word_behind_it(self):
        self.keeps(CLOSED, SENT + "word; word; word; take 0", DRAIN, None)
        self.keeps(CLOSED, SENT + "word; word; take 0; word", DRAIN, SENT + "word; word; take 0; word; word")

    def test_at_the_place_0(self):
        lot = ((0, "agree"), (0, "clear"), (0, "drain"))
        self.keeps(CLOSED, "", lot, "word; word; word")
        self.keeps(CLOSED, SENT + "word", lot, "word; word; word; " + SENT + "word")

    def test_behind_the_last_step(self):
        self.keeps(CLOSED, SENT + "word; word; take 0", DRAIN, SENT + "word; word; take 0; word")
        self.keeps(CLOSED, "word; word", DRAIN, "word; word; word")
        self.keeps(CLOSED, SENT + "word; word", DRAIN, SENT + "word; word")
        self.keeps(CLOSED, "word; word; word", ((3, "agree"),), "word; word; word; word")
        self.keeps(CLOSED, "learn 0; word; word; word", ((3, "agree"),), "learn 0; word; word; word")

    def test_up_to_the_first_one_that_cannot_be_done(self):
        lot = ((2, "agree"), (2, "clear"), (2, "drain"))
        self.keeps(CLOSED, SENT + "word; word", lot, SENT + "word; word")
        lot = ((2, "clear"), (2, "drain"))
        self.keeps(CLOSED, SENT + "word; word", lot, SENT + "word; word; word")
        self.keeps(CLOSED, "learn 0; send 0 0; word; word; arrive 0 0", lot,
                   "learn 0; send 0 0; word; word; arrive 0 0; word; word")
        self.keeps(CLOSED, "learn 0; send 0 0; word; word", lot, "learn 0; send 0 0; word; word")
        self.keeps(CLOSED, SENT + "send 0 0; word; word; take 0; arrive 0 1", lot,
                   SENT + "send 0 0; word; word; take 0; arrive 0 1; word; word")

    def test_in_their_order(self):
        # The drain could be done at once, but it stands behind the clear.
        lot = ((1, "clear"), (1, "drain"))
        case = case_of("show open")
        self.keeps(case, "learn 0; send 0 0; word; arrive 0 0; word", lot, None)
        self.keeps(case, "learn 0; send 0 0; word; arrive 0 0; take 0; learn 1; word", lot,
                   "learn 0; send 0 0; word; arrive 0 0; word; take 0; word; learn 1; word")
        self.keeps(case, "learn 0; send 0 0; word; arrive 0 0", lot, "learn 0; send 0 0; word; arrive 0 0; word")

    def test_a_wait_ahead_of_a_wait_of_the_plan(self):
        case = case_of("show drain open")
        self.keeps(case, SENT + "word; take 0; word; word", ((1, "clear"), (2, "drain")),
                   SENT + "word; word; take 0; word; word; word")

    def test_the_example_of_the_document(self):
        case = case_of("show open")
        text = "learn 0; send 0 0; word; word; learn 1; arrive 0 0; send 1 0; arrive 0 1; take 1; take 0"
        for lot in (((1, "agree"),), ((1, "clear"),)):
            self.keeps(case, text, lot, None)
        self.keeps(case, text, ((1, "drain"),), text.replace("word; word", "word; word; word"))

    def test_two_hundred_steps_and_more(self):
        run = steps_of("learn 0; send 0 0; arrive 0 0; " + "take 0; hand 0; " * 98 + "word")
        self.assertEqual(len(run), 200)
        lot = ((0, "agree"), (0, "clear"), (1, "clear"))
        kept = kept_run(HANDED, run, lot)
        self.assertEqual(kept, steps_of("word; word; ") + run + steps_of("word"))
        with self.assertRaises(BadStep) as caught:
            kept_run(HANDED, run + steps_of("learn 1"), lot)
        self.assertEqual(caught.exception.place, 200)

    def test_fifteen_words(self):
        plan = ("show",) + ("open",) * 11
        case = (EXAMPLE[0], plan, (1, 2), (0, 1))
        spots = all_spots(plan)
        self.assertEqual(kept_run(case, [], tuple(spots[:3])), steps_of("word; word; word"))
        self.assertIs(error_of(kept_run, (case, [], tuple(spots[:4]))), TooMany)
        # More than three spots are no matter here.
        case = (EXAMPLE[0], ("show", "open"), (1, 2), (0, 1))
        self.assertEqual(kept_run(case, steps_of("word; word"), tuple(all_spots(case[1]))), [("word",)] * 11)

    def test_a_bad_run_comes_ahead_of_a_bad_lot(self):
        for lot in (None, ((9, "agree"),), tuple(all_spots(("show",) * 5))):
            with self.assertRaises(BadStep) as caught:
                kept_run(EXAMPLE, [("word",), ("word",), ("word",)], lot)
            self.assertEqual(caught.exception.place, 2)


class RandomRuns(unittest.TestCase):
    def some(self, dice, most):
        """Return some case, a run of it, and a lot."""
        case = random_case(dice, 5)
        run = random_run(dice, house_of(case), most)
        spots = dice.sample(all_spots(case[1]), dice.randint(0, 3))
        return case, run, tuple(sorted(spots))

    def test_against_trying_each_index(self):
        dice = random.Random(26)
        found = []
        for _ in range(700):
            case, run, lot = self.some(dice, 12)
            kept = kept_run(case, run, lot)
            self.assertEqual(kept, kept_by_trying(case, run, lot), (case, run, lot))
            found.append("none" if kept is None else "more" if len(kept) > len(run) else "same")
        for word in ("none", "more", "same"):
            self.assertGreater(found.count(word), 50)

    def test_a_run_with_its_waits_taken_out_is_kept(self):
        dice = random.Random(27)
        for _ in range(400):
            case, _, lot = self.some(dice, 0)
            longer = with_lot(case, lot)
            run = random_run(dice, house_of(longer), 60)
            # The words of the longer plan, with True for those that are waits of the lot.
            put, words = list(lot), []
            for place in range(len(case[1]) + 1):
                words += [True for spot in put if spot[0] == place] + [False] * (place < len(case[1]))
            small, number = [], 0
            for step in run:
                small += [step] if step != ("word",) or not words[number] else []
                number += step == ("word",)
            state_after(house_of(case), small)
            kept = kept_run(case, small, lot)
            self.assertIsNotNone(kept, (case, run, lot))
            self.assertEqual([step for step in kept if step != ("word",)], [step for step in run if step != ("word",)])
            state_after(house_of(longer), kept)

    def test_events_are_those_of_the_run_but_for_late_letters(self):
        dice = random.Random(28)
        for _ in range(300):
            case, run, lot = self.some(dice, 100)
            kept = kept_run(case, run, lot)
            if kept is not None:
                longer = house_of((case[0], with_waits(case[1], lot)) + case[2:])
                events = [event for event in events_of(longer, kept) if event[0] != "late"]
                self.assertEqual(events, [event for event in events_of(house_of(case), run) if event[0] != "late"])

    def test_what_is_passed_stays(self):
        run = steps_of(SENT + "word; word")
        kept = kept_run(CLOSED, run, ((0, "agree"),))
        self.assertEqual(run, steps_of(SENT + "word; word"))
        run.clear()
        self.assertEqual(kept, steps_of("word; " + SENT + "word; word"))


class KeptRunArguments(Refusals, unittest.TestCase):
    function = [kept_run]
    goods = [(EXAMPLE, [], ()), (CLOSED, steps_of(SENT + "word; word"), DRAIN), (HANDED, steps_of(SENT), ((0, "clear"),))]

    def wrongs(self, good):
        return [
            ("case", BadCase, bad_cases(good[0])), ("run", BadStep, bad_runs()), ("lot", BadSpot, bad_lots(good[0][1])),
        ]


if __name__ == "__main__":
    unittest.main()
