"""Point 16: whether a run shows one of the first four questions."""

import random
import unittest

from model import Model, random_house, random_run
from refusals import Refusals
from running import built
from things import bad_houses, bad_questions, bad_runs, steps_of

from lanescounted.errors import BadHouse, BadQuestion, BadStep
from lanescounted.questions import run_shows

ASKED = ("order", "twice", "lost", "late")
TWO_IN = "learn 0; send 0 0; arrive 0 0; send 0 0; arrive 0 1; "
EARLY = "learn 0; send 0 0; word; word; learn 1; arrive 0 0; send 1 0; arrive 0 1; "


class Shows(unittest.TestCase):
    def shown(self, house, text, *questions):
        for question in ASKED:
            self.assertIs(run_shows(house, question, steps_of(text)), question in questions, (question, text))

    def test_no_step_shows_nothing(self):
        for notes in ("with", "behind", "first"):
            self.shown(built("show open", notes=notes), "")

    def test_order(self):
        house = built("show open")
        self.shown(house, EARLY)
        self.shown(house, EARLY + "take 1", "order")
        self.shown(house, EARLY + "take 1; take 0", "order")
        self.shown(house, EARLY + "take 0; take 1")

    def test_order_is_of_one_key(self):
        house = built("show open", courses=((0, 1), (0, 1)))
        text = "learn 0; send 0 0; word; word; learn 1; arrive 0 0; send 1 1; arrive 1 0; take 1; "
        self.shown(house, text)
        self.shown(house, text + "take 0")

    def test_order_is_not_shown_behind_a_lost_letter(self):
        house = built("show close", (2, 2), refused="lost")
        text = "learn 0; send 0 0; word; word; learn 1; arrive 0 0; "
        self.shown(house, text, "lost")
        house = built("show close open", refused="lost")
        text = "learn 0; send 0 0; word; word; word; arrive 0 0; learn 0; send 0 0; arrive 0 1; take 1"
        self.shown(house, text, "lost")

    def test_order_by_a_letter_that_is_not_the_last_but_one(self):
        house = built("show open", letters=(3,))
        text = EARLY + "send 1 0; arrive 0 2; "
        self.shown(house, text + "take 1; take 0", "order")
        self.shown(house, text + "take 0; take 1; take 1")
        house = built("show open", (2, 2), ((0, 1),), letters=(3,), notes="first", steady=False)
        text = EARLY + "send 1 0; arrive 0 2; note 0; note 1; hand 1; note 1; "
        self.shown(house, text, "lost")
        self.shown(house, text + "take 1", "order", "lost")

    def test_order_by_letters_that_are_back(self):
        house = built("show close open", paced=False)
        text = "learn 0; send 0 0; word; word; word; learn 0; send 0 0; arrive 0 1; "
        self.shown(house, text + "arrive 0 0")
        self.shown(house, text + "arrive 0 0; take 1", "order")
        self.shown(house, text + "arrive 0 0; again 0 0; take 1", "order")

    def test_twice(self):
        house = built("show", notes="behind", steady=False)
        self.shown(house, TWO_IN + "take 0; take 0")
        self.shown(house, TWO_IN + "take 0; hand 0")
        self.shown(house, TWO_IN + "take 0; hand 0; take 0", "twice")
        self.shown(house, TWO_IN + "take 0; note 0; take 0")
        self.shown(house, TWO_IN + "take 0; hand 0; take 0; take 0; note 0", "twice")

    def test_lost(self):
        house = built("show", notes="first", steady=False)
        self.shown(house, TWO_IN + "note 0; take 0")
        self.shown(house, TWO_IN + "note 0; hand 0", "lost")
        self.shown(built("show close", refused="lost"), "learn 0; send 0 0; word; word; arrive 0 0", "lost")
        self.shown(built("show close", refused="back"), "learn 0; send 0 0; word; word; arrive 0 0")
        house = built("show drop", (2, 1), ((1, 0),))
        self.shown(house, "learn 0; send 0 0; word; word; arrive 0 0", "lost")
        self.shown(house, "learn 0; send 0 0; arrive 0 0; word; word", "lost")
        self.shown(house, "learn 0; send 0 0; arrive 0 0; take 1; word; word")
        house = built("show drop", (2, 1), ((1, 0),), notes="behind")
        self.shown(house, "learn 0; send 0 0; arrive 0 0; take 1; word; word")

    def test_late(self):
        house = built("show drain")
        self.shown(house, "learn 0; send 0 0; word; word")
        self.shown(house, "learn 0; send 0 0; word; word; arrive 0 0", "late")
        self.shown(house, "learn 0; send 0 0; word; arrive 0 0")
        self.shown(built("show close drain"), "learn 0; send 0 0; word; word; word; arrive 0 0")

    def test_several_at_once(self):
        house = built("show drain open copy", notes="behind")
        text = EARLY.replace("word; word; ", "word; word; word; ") + "take 1; take 0; word; take 1"
        self.shown(house, text, "late", "order", "twice")

    def test_random_runs_show_what_the_model_shows(self):
        dice = random.Random(161)
        found = []
        for _ in range(1500):
            house = random_house(dice)
            run = random_run(dice, house, 80)
            model, shows = Model(house), set()
            for step in run:
                shows |= model.do(step)[1]
            for question in ASKED:
                self.assertIs(run_shows(house, question, run), question in shows, (house, run))
            found += shows
        for question in ASKED:
            self.assertGreater(found.count(question), 20)

    def test_the_run_that_is_passed_stays(self):
        run = steps_of(EARLY + "take 1")
        run_shows(built("show open"), "order", run)
        self.assertEqual(run, steps_of(EARLY + "take 1"))

    def test_the_place_of_a_bad_step(self):
        house = built("show open")
        for place in range(9):
            run = steps_of(EARLY + "take 1")
            run[place] = ("take", 3)
            with self.assertRaises(BadStep) as caught:
                run_shows(house, "order", run)
            self.assertEqual(caught.exception.place, place)


class RunShowsArguments(Refusals, unittest.TestCase):
    function = [run_shows]
    goods = [(built("show open"), "order", steps_of(EARLY + "take 1")), (built("show", senders=1), "late", [])]

    def wrongs(self, good):
        return [
            ("house", BadHouse, bad_houses(good[0])), ("question", BadQuestion, bad_questions(ASKED)),
            ("run", BadStep, bad_runs()),
        ]


if __name__ == "__main__":
    unittest.main()
