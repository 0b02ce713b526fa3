"""Point 17: the run of a small house that is left of a run, for two letters of a key."""

import itertools
import random
import unittest

from model import Model, random_house, random_run, replayed
from refusals import Refusals
from running import built
from things import bad_houses, bad_integers, bad_runs, steps_of

from lanescounted.errors import BadHouse, BadKey, BadPair, BadStep
from lanescounted.houses import house_of
from lanescounted.questions import project, run_shows
from lanescounted.runs import events_of, state_after

ASKED = ("order", "twice", "lost", "late")
HOUSE = built("show tell open", (2, 2), ((0, 1), (0, 0)), (3, 2), 3, notes="behind", steady=False)
RUN = steps_of(
    "learn 2; send 2 0; arrive 0 0; learn 0; send 0 1; arrive 1 0; take 0; word; word; hear 2; send 0 0; learn 1;"
    "arrive 0 1; take 0; note 0; take 0; send 2 0; word; arrive 0 2; hear 0; take 1"
)


def small_house(house, key):
    """Return the house of the case of a key."""
    return house_of(house[:3] + (house[3][key],))


def all_pairs(house):
    """Return all (key, first, second) of a house."""
    return [
        (key, first, second) for key, many in enumerate(house[4])
        for first, second in itertools.combinations(range(many), 2)
    ]


def expected(house, run, key, first, second):
    """Return the projection, found by what the model of the house shows ahead of and behind each step."""
    names, senders, small = [(key, first), (key, second)], [], []
    for number in (first, second):
        sender = next((step[1] for step, name in sends(house, run) if name == (key, number)), None)
        senders += [sender] if sender is not None and sender not in senders else []
    for place, step in enumerate(run):
        before, after = replayed(house, run[:place]).state(), replayed(house, run[:place + 1]).state()
        events = replayed(house, run[:place]).do(step)[0]
        if step[0] == "word":
            small.append(step)
        elif step[0] in ("learn", "hear"):
            small += [(step[0], senders.index(step[1]))] if step[1] in senders else []
        elif step[0] == "send":
            small += [("send", senders.index(step[1]), 0)] if (step[2], before[6][step[2]]) in names else []
        elif step[0] in ("arrive", "again"):
            small += [(step[0], 0, names.index(step[1:]))] if step[1:] in names else []
        elif step[0] == "take":
            small += [step] if events[0][2:] in names else []
        elif step[0] == "note":
            gone = [letter[:2] for letter in before[4][step[1]] if letter not in after[4][step[1]]]
            small += [step] if set(gone) & set(names) else []
        else:
            reader = before[5][step[1]]
            had = [reader[:2]] if house[0][3] == "first" else [letter[:2] for letter in before[4][step[1]][:reader]]
            small += [step] if set(had) & set(names) else []
    return small


def sends(house, run):
    """Return (step, letter) for each send of a run."""
    model, found = Model(house), []
    for step in run:
        if step[0] == "send":
            found.append((step, (step[2], model.sent[step[2]])))
        model.do(step)
    return found


class Examples(unittest.TestCase):
    def check(self, house, run, pair, text):
        self.assertEqual(project(house, run, *pair), steps_of(text))
        state_after(small_house(house, pair[0]), steps_of(text))

    def test_two_letters_of_two_senders(self):
        self.check(HOUSE, RUN, (0, 0, 1), """
            learn 0; send 0 0; arrive 0 0; learn 1; take 0; word; word; hear 0; send 1 0; arrive 0 1; note 0; take 0;
            word; hear 1
        """)

    def test_two_letters_of_one_sender(self):
        self.check(HOUSE, RUN, (0, 0, 2), """
            learn 0; send 0 0; arrive 0 0; take 0; word; word; hear 0; note 0; send 0 0; word; arrive 0 1; take 1
        """)

    def test_letters_that_are_not_the_first_ones(self):
        self.check(HOUSE, RUN, (0, 1, 2), """
            learn 1; learn 0; word; word; hear 1; send 0 0; arrive 0 0; take 0; send 1 0; word; arrive 0 1; hear 0;
            take 1
        """)

    def test_a_letter_that_is_not_sent_has_no_sender(self):
        self.check(HOUSE, RUN, (1, 0, 1), "learn 0; send 0 0; arrive 0 0; word; word; take 0; note 0; word; hear 0")

    def test_if_none_is_sent_the_words_are_left(self):
        self.check(HOUSE, [step for step in RUN if step[0] in ("word", "learn")], (0, 0, 1), "word; word; word")

    def test_no_step(self):
        self.check(HOUSE, [], (0, 0, 1), "")

    def test_a_sender_that_sends_again(self):
        house = built("show close tell", courses=((0, 1), (0, 1)), paced=False)
        run = steps_of("""
            learn 1; learn 0; send 0 0; send 1 1; word; word; word; arrive 0 0; arrive 1 0; hear 1; again 1 0; send 1 1;
            arrive 1 0; hear 0; again 0 0
        """)
        self.check(house, run, (1, 0, 1), """
            learn 0; send 0 0; word; word; word; arrive 0 0; hear 0; again 0 0; send 0 0; arrive 0 0
        """)
        self.check(house, run, (0, 0, 1), "learn 0; send 0 0; word; word; word; arrive 0 0; hear 0; again 0 0")

    def test_a_note_is_kept_by_any_letter_that_it_notes(self):
        house = built("show", (1, 1), ((0, 0), (0, 0)), notes="behind")
        text = "learn 0; send 0 0; arrive 0 0; send 0 1; arrive 1 0; send 0 0; arrive 0 1; take 0; take 0; note 0"
        small = "learn 0; send 0 0; arrive 0 0; take 0; note 0"
        self.check(house, steps_of(text), (1, 0, 1), small)
        # The second note notes a letter of the other key alone.
        self.check(house, steps_of(text + "; take 0; note 0"), (1, 0, 1), small)
        self.check(house, steps_of(text), (0, 0, 1), "learn 0; send 0 0; arrive 0 0; send 0 0; arrive 0 1; take 0; note 0")

    def test_hand_is_kept_if_it_changes_what_the_reader_has(self):
        house = built("show", (1, 1), ((0, 0), (0, 0)), notes="behind", steady=False)
        text = "learn 0; send 0 0; arrive 0 0; send 0 1; arrive 1 0; take 0; hand 0; take 0; take 0; hand 0"
        self.check(house, steps_of(text), (0, 0, 1), "learn 0; send 0 0; arrive 0 0; take 0; hand 0; take 0; hand 0")
        self.check(house, steps_of(text), (1, 0, 1), "learn 0; send 0 0; arrive 0 0; take 0; hand 0")

    def test_steps_of_a_hand_that_holds_a_letter(self):
        house = built("show", (1, 1), ((0, 0), (0, 0)), notes="first", steady=False)
        text = "learn 0; send 0 0; arrive 0 0; send 0 1; arrive 1 0; note 0; hand 0; note 0; take 0"
        self.check(house, steps_of(text), (0, 0, 1), "learn 0; send 0 0; arrive 0 0; note 0; hand 0")
        self.check(house, steps_of(text), (1, 0, 1), "learn 0; send 0 0; arrive 0 0; note 0; take 0")


class RandomRuns(unittest.TestCase):
    def setUp(self):
        self.dice = random.Random(17)

    def test_the_steps_that_concern_the_letters_are_kept(self):
        for _ in range(150):
            house = random_house(self.dice)
            run = random_run(self.dice, house, 30)
            for pair in all_pairs(house):
                self.assertEqual(project(house, run, *pair), expected(house, run, *pair), (house, run, pair))

    def test_a_projection_is_a_run_with_the_events_of_the_two_letters(self):
        for _ in range(500):
            house = random_house(self.dice)
            run = random_run(self.dice, house, 200)
            events = events_of(house, run)
            for key, first, second in all_pairs(house):
                numbers = {(key, first): 0, (key, second): 1}
                small = project(house, run, key, first, second)
                kept = [event[:-2] + (0, numbers[event[-2:]]) for event in events if event[-2:] in numbers]
                self.assertEqual(events_of(small_house(house, key), small), kept)

    def test_what_a_run_shows_some_projection_shows(self):
        found = []
        for _ in range(900):
            house = random_house(self.dice, least=2)
            run = random_run(self.dice, house, 60)
            smalls = [(small_house(house, pair[0]), project(house, run, *pair)) for pair in all_pairs(house)]
            for question in ASKED:
                shown = any(run_shows(small, question, steps) for small, steps in smalls)
                self.assertIs(run_shows(house, question, run), shown)
                found += [question] * shown
        for question in ASKED:
            self.assertGreater(found.count(question), 10)

    def test_the_run_that_is_passed_stays(self):
        run = list(RUN)
        small = project(HOUSE, run, 0, 0, 1)
        self.assertEqual(run, RUN)
        run.clear()
        self.assertEqual(small, project(HOUSE, RUN, 0, 0, 1))


class ProjectArguments(Refusals, unittest.TestCase):
    function = [project]
    goods = [(HOUSE, RUN, 0, 0, 1), (HOUSE, RUN, 0, 1, 2), (HOUSE, [], 1, 0, 1), (HOUSE, RUN[:5], 0, 0, 2)]

    def wrongs(self, good):
        house, _, key, first, second = good
        last = house[4][key] - 1
        return [
            ("house", BadHouse, bad_houses(house)), ("run", BadStep, bad_runs()),
            ("key", BadKey, bad_integers(0, len(house[3]) - 1)),
            ("first", BadPair, bad_integers(0, second - 1)), ("second", BadPair, bad_integers(first + 1, last)),
        ]


class ProjectPlaces(unittest.TestCase):
    def test_the_place_of_a_bad_step(self):
        for place in range(len(RUN)):
            with self.assertRaises(BadStep) as caught:
                project(HOUSE, RUN[:place] + [("take", True)] + RUN[place:], 0, 0, 1)
            self.assertEqual(caught.exception.place, place)

    def test_a_key_of_one_letter_has_no_pair(self):
        house = built("show", letters=(1,))
        for first, second in itertools.product(range(-1, 3), repeat=2):
            with self.assertRaises(BadPair):
                project(house, [], 0, first, second)


if __name__ == "__main__":
    unittest.main()
