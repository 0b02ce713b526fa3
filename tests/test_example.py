"""Point 36, and 3: the example of the document, over the whole program, and great houses against small ones."""

import random
import unittest

from cases import EXAMPLE, FENCED
from model import random_house, random_run
from things import steps_of

from lanescounted.answers import answer_for, answer_holds, answer_to, states_close
from lanescounted.desk import Desk
from lanescounted.houses import house_of, is_case
from lanescounted.live import House
from lanescounted.logs import log_editions, log_places, log_run
from lanescounted.plans import harmed, is_fenced, shown_by
from lanescounted.questions import embed, project, run_shows
from lanescounted.runs import events_of, possible_steps, state_after
from lanescounted.schemes import carried_run, scheme_within
from lanescounted.texts import read_house, read_run, show_house, show_run
from lanescounted.waits import kept_run, least_waits, runs_against, with_waits

CASE = ((False, True, "back", "with", True), ("show", "open"), (1, 2), (0, 1))
# The run that the document tells: the letter 1 is taken ahead of the letter 0.
RUN = steps_of("learn 0; send 0 0; word; word; learn 1; arrive 0 0; send 1 0; arrive 0 1; take 1")
PIPED = ((False, False, "back", "with", True),) + FENCED[1:]
# The letter 0 is refused, is sent again and comes to lane 1 behind the letter 1.
REFUSED = steps_of("""
    learn 0; send 0 0; word; word; word; word; learn 0; send 0 0; arrive 0 1; arrive 0 0; again 0 0; arrive 0 0; take 1;
    take 1
""")
WAITING = ((False, False, "lost", "with", True), ("show", "close", "drain", "tell", "open"), (1, 2), (0, 1))
SPOTS = [(4, "agree"), (4, "clear")]


class Opened(unittest.TestCase):
    def test_the_case_and_its_house(self):
        self.assertEqual(CASE, EXAMPLE)
        self.assertIs(is_case(CASE), True)
        self.assertEqual(house_of(CASE)[3:], (((0, 1),), (2,), 2))
        self.assertEqual(read_house(show_house(house_of(CASE))), house_of(CASE))

    def test_order_is_shown(self):
        house = house_of(CASE)
        self.assertIs(run_shows(house, "order", RUN), True)
        self.assertIs(run_shows(house, "order", RUN[:-1]), False)
        self.assertEqual(events_of(house, RUN), [("take", 1, 0, 1)])
        self.assertIn(("take", 0), possible_steps(house, RUN))
        # As soon as letter 0 has arrived, not earlier.
        self.assertNotIn(("send", 1, 0), possible_steps(house, RUN[:5]))
        self.assertIn(("send", 1, 0), possible_steps(house, RUN[:6]))

    def test_the_answer(self):
        word, steps = answer_to(CASE, "order")
        self.assertEqual((word, len(steps)), ("run", len(RUN)))
        self.assertIs(answer_holds(CASE, "order", ("run", RUN)), True)
        self.assertEqual(answer_for(house_of(CASE), "order")[0], 0)
        self.assertEqual(shown_by(*CASE[:3]), [((0, 0), ()), ((0, 1), ("order",))])

    def test_its_log(self):
        self.assertEqual(len(log_run(CASE, [(1, 1)])), len(RUN))
        self.assertEqual(log_places(CASE, [(1, 1), (0, 0)]), [2])
        self.assertEqual(log_editions(CASE, [(1, 1), (0, 0)]), [(1,), (0,)])

    def test_live_and_at_the_desk(self):
        live, desk = House(house_of(CASE)), Desk()
        self.assertEqual(desk.say("show"), show_house(house_of(CASE)).replace("\n", " / "))
        for step in read_run(show_run(RUN)):
            events = live.take_step(step)
            self.assertEqual(desk.say("do " + show_run([step])), show_run(events) or "nothing")
        self.assertIs(live.shows("order"), True)
        self.assertEqual((live[0], live[1]), (((0, 0),), ()))
        self.assertEqual(live.settle(), [("take", 0)])

    def test_a_half_of_its_marks_is_harmed(self):
        self.assertEqual(harmed(CASE[0], CASE[1], "rest", CASE[2], 10 ** 40, "order"), 5 * 10 ** 39)


class Fenced(unittest.TestCase):
    def test_the_plan_is_fenced(self):
        self.assertEqual(FENCED[1], ("show", "close", "drain", "open"))
        self.assertIs(is_fenced(FENCED[1]), True)
        self.assertIs(is_fenced(CASE[1]), False)

    def test_order_is_never_shown(self):
        answer = answer_to(FENCED, "order")
        self.assertEqual(answer[0], "never")
        self.assertIs(answer_holds(FENCED, "order", answer), True)
        self.assertIs(states_close(FENCED, "order", answer[1]), True)
        self.assertEqual(least_waits(FENCED, ["order"], SPOTS[:1]), [()])

    def test_nobody_holds_edition_1_before_open(self):
        for place, held, *_ in answer_to(FENCED, "order")[1]:
            if place < 4:
                self.assertNotIn(1, held)

    def test_behind_drain_the_elder_edition_is_in_no_lane(self):
        for place, _, _, _, lanes, *_ in answer_to(FENCED, "order")[1]:
            if place >= 3:
                self.assertNotIn(0, [edition for letters in lanes for _, _, edition in letters])

    def test_the_run_of_the_other_plan_does_not_keep_these_waits(self):
        # Between show and open stand a close and a drain; the drain alone would let the run go through.
        self.assertEqual(kept_run(CASE, RUN, ((1, "drain"),)), RUN[:3] + [("word",)] + RUN[3:])
        self.assertIsNone(kept_run(CASE, RUN, ((1, "clear"),)))
        self.assertEqual(with_waits(("show", "close", "open"), ((2, "drain"),)), FENCED[1])


class Piped(unittest.TestCase):
    def test_order_is_shown(self):
        house = house_of(PIPED)
        self.assertIs(run_shows(house, "order", REFUSED[:-1]), True)
        self.assertEqual(events_of(house, REFUSED), [("refuse", 0, 0), ("take", 1, 0, 1), ("take", 1, 0, 0)])
        self.assertEqual(state_after(house, REFUSED[:-2])[4], ((), ((0, 1, 1), (0, 0, 1))))
        self.assertIs(answer_holds(PIPED, "order", ("run", REFUSED)), True)

    def test_the_schemes(self):
        self.assertIs(scheme_within(FENCED[0], PIPED[0]), True)
        self.assertIs(scheme_within(PIPED[0], FENCED[0]), False)
        self.assertEqual(carried_run(CASE, PIPED[0], RUN), RUN)


class Waiting(unittest.TestCase):
    def test_least_waits(self):
        self.assertEqual(least_waits(WAITING, ["order"], SPOTS), [((4, "agree"), (4, "clear"))])

    def test_with_either_alone_a_letter_can_still_be_under_way(self):
        found = runs_against(WAITING, ["order"], tuple(SPOTS))
        for (question, steps), other in zip(found, SPOTS[::-1]):
            case = (WAITING[0], with_waits(WAITING[1], (other,))) + WAITING[2:]
            self.assertEqual(question, "order")
            self.assertIs(answer_holds(case, "order", ("run", steps)), True)


class GreatAndSmall(unittest.TestCase):
    def test_each_run_of_a_house_leads_to_one_of_a_case_and_back(self):
        dice = random.Random(3)
        for _ in range(80):
            house = random_house(dice, least=2)
            run = random_run(dice, house, 40)
            for key, course in enumerate(house[3]):
                small = house_of(house[:3] + (course,))
                steps = project(house, run, key, 0, 1)
                again = embed(house, key, steps)
                self.assertEqual(project(house, again, key, 0, 1), project(small, steps, 0, 0, 1))
                for question in ("order", "twice", "lost", "late"):
                    self.assertIs(run_shows(house, question, again), run_shows(small, question, steps))


if __name__ == "__main__":
    unittest.main()
