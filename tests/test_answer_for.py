"""Point 22 for answer_for: the least key of a house that is harmed, and a run of the house that shows it."""

import random
import unittest

from cases import case_of
from model import random_plan, random_run, random_scheme
from refusals import Refusals, error_of
from running import built
from things import ALL_QUESTIONS, bad_houses, bad_questions

from lanescounted.answers import answer_for, answer_holds, answer_to
from lanescounted.errors import BadHouse, BadQuestion
from lanescounted.questions import embed, run_shows
from lanescounted.runs import state_after

# The key 0 keeps its lane, the keys 1 and 2 change it.
HOUSE = built("show open", (2, 2), ((0, 0), (0, 1), (1, 0)), (2, 3, 2), 3)


def small_run(house, key, steps):
    """Return the steps of the key's case that a run with steps of this key alone embeds."""
    small = []
    for step in steps:
        if step[0] == "send":
            assert step[2] == key
            small.append(("send", step[1], 0))
        elif step[0] in ("arrive", "again"):
            assert step[1] == key
            small.append((step[0], 0, step[2]))
        else:
            small.append(step)
    return small


def some_house(dice):
    """Return some house with a short plan, two senders or more, and two letters or more of each key."""
    plan = random_plan(dice, 5)
    counts = tuple(dice.randint(1, 3) for _ in range(plan.count("show") + 1))
    keys = dice.randint(1, 3)
    courses = tuple(tuple(map(dice.randrange, counts)) for _ in range(keys))
    letters = tuple(dice.randint(2, 3) for _ in range(keys))
    return (random_scheme(dice), plan, counts, courses, letters, dice.randint(2, 3))


class AnswerFor(unittest.TestCase):
    def test_the_least_key_that_is_harmed(self):
        key, steps = answer_for(HOUSE, "order")
        self.assertEqual((key, len(steps)), (1, 9))
        self.assertIs(run_shows(HOUSE, "order", steps), True)
        turned = HOUSE[:3] + (HOUSE[3][::-1],) + HOUSE[4:]
        self.assertEqual(answer_for(turned, "order")[0], 0)

    def test_none_if_no_key_is(self):
        for question in ("twice", "lost", "late", "stuck", "left"):
            self.assertIsNone(answer_for(HOUSE, question))
        self.assertIsNone(answer_for(HOUSE[:3] + (((0, 0), (1, 1)), (2, 2), 2), "order"))

    def test_stuck_and_left(self):
        house = built("show agree", (2, 2), ((0, 0), (0, 1)))
        key, steps = answer_for(house, "stuck")
        self.assertEqual((key, len(steps)), (0, 1))
        self.assertIn(steps, ([("learn", 0)], [("learn", 1)]))
        house = built("show close", (2, 2), ((0, 0), (0, 1)))
        key, steps = answer_for(house, "left")
        self.assertEqual((key, len(steps)), (0, 4))

    def test_the_run_is_an_embedded_shortest_one(self):
        dice = random.Random(22)
        found = []
        for _ in range(80):
            house = some_house(dice)
            for question in ALL_QUESTIONS:
                answer = answer_for(house, question)
                answers = [answer_to(house[:3] + (course,), question) for course in house[3]]
                keys = [key for key, (word, _) in enumerate(answers) if word == "run"]
                found.append((question, keys[0] if keys else None))
                if not keys:
                    self.assertIsNone(answer)
                    continue
                self.check_run(house, question, keys[0], answer, len(answers[keys[0]][1]))
        for question in ALL_QUESTIONS:
            self.assertGreater(found.count((question, None)), 10)
            self.assertGreater(len(found) // 6 - found.count((question, None)), 3)
        self.assertGreater(len([key for _, key in found if key]), 3)

    def check_run(self, house, question, key, answer, least):
        self.assertIs(type(answer), tuple)
        found, steps = answer
        self.assertEqual((found, len(steps)), (key, least))
        small = small_run(house, key, steps)
        self.assertEqual(embed(house, key, small), steps)
        self.assertIs(answer_holds(house[:3] + (house[3][key],), question, ("run", small)), True)
        state_after(house, steps)
        if question in ALL_QUESTIONS[:4]:
            self.assertIs(run_shows(house, question, steps), True)

    def test_none_means_that_no_run_of_the_house_shows_it(self):
        dice = random.Random(23)
        shown = []
        for _ in range(60):
            house = some_house(dice)
            runs = [random_run(dice, house, 60) for _ in range(8)]
            for question in ALL_QUESTIONS[:4]:
                harmless = answer_for(house, question) is None
                for steps in runs:
                    shown.append(run_shows(house, question, steps))
                    self.assertFalse(harmless and shown[-1], (house, question, steps))
        self.assertGreater(shown.count(True), 20)

    def test_two_senders_and_two_letters_of_each_key_are_needed(self):
        for letters, senders, error in (((2, 2, 2), 2, None), ((3, 3, 3), 3, None), ((2, 2, 2), 1, BadHouse),
                                        ((1, 2, 2), 2, BadHouse), ((2, 2, 1), 3, BadHouse), ((1, 1, 1), 1, BadHouse)):
            house = HOUSE[:4] + (letters, senders)
            self.assertIs(error_of(answer_for, (house, "late")), error)
            # The house comes ahead of the question.
            self.assertIs(error_of(answer_for, (house, "none")), error or BadQuestion)

    def test_lists_that_are_returned_are_new(self):
        first = answer_for(HOUSE, "order")
        kept = (first[0], list(first[1]))
        first[1].clear()
        self.assertEqual(answer_for(HOUSE, "order"), kept)

    def test_the_house_of_a_case(self):
        key, steps = answer_for(built("show open"), "order")
        self.assertEqual((key, steps[-1]), (0, ("take", 1)))
        self.assertIs(answer_holds(case_of("show open"), "order", ("run", steps)), True)


class AnswerForArguments(Refusals, unittest.TestCase):
    function = [answer_for]
    goods = [(HOUSE, "order"), (HOUSE, "stuck"), (built("show"), "left")]

    def wrongs(self, good):
        house = good[0]
        fewer = [house[:5] + (1,), house[:4] + ((1,) + house[4][1:],) + house[5:]]
        return [
            ("house", BadHouse, bad_houses(house) + fewer), ("question", BadQuestion, bad_questions(ALL_QUESTIONS)),
        ]


if __name__ == "__main__":
    unittest.main()
