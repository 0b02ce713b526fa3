"""Point 18, and 6 for renamings: runs of small houses in great ones, and runs with other names."""

import itertools
import random
import unittest

from model import random_house, random_run
from refusals import Refusals, error_of
from running import built
from things import bad_houses, bad_integers, bad_runs, no_integers, replaced, steps_of, strange

from lanescounted.errors import BadHouse, BadKey, BadRenaming, BadStep
from lanescounted.houses import house_of
from lanescounted.questions import embed, project, renamed_run, run_shows
from lanescounted.runs import events_of, state_after
from lanescounted.tables import all_courses, small_courses

ASKED = ("order", "twice", "lost", "late")
GREAT = built("show close tell open", (2, 2), ((0, 0), (0, 1), (1, 1)), (1, 2, 3), 3, notes="behind", steady=False)
SMALL_RUN = steps_of("""
    learn 0; learn 1; send 1 0; word; word; word; arrive 0 0; hear 1; again 0 0; arrive 0 0; word; take 1; hand 1; take 1;
    note 1; send 1 0
""")
EMBEDDED = steps_of("""
    learn 0; learn 1; send 1 1; word; word; word; arrive 1 0; hear 1; again 1 0; arrive 1 0; word; take 1; hand 1; take 1;
    note 1; send 1 1
""")


def case_house(house, key):
    """Return the house of the case of a key."""
    return house_of(house[:3] + (house[3][key],))


class Embed(unittest.TestCase):
    def test_steps_of_the_key_get_its_number(self):
        self.assertEqual(embed(GREAT, 1, SMALL_RUN), EMBEDDED)
        self.assertEqual(embed(GREAT, 1, []), [])

    def test_a_house_of_one_key(self):
        house = built("show close tell open", (2, 2), notes="behind", steady=False)
        self.assertEqual(embed(house, 0, SMALL_RUN), SMALL_RUN)

    def test_the_letters_are_the_first_ones_of_the_key(self):
        run = embed(GREAT, 2, steps_of("learn 1; send 1 0; arrive 0 0; send 1 0"))
        self.assertEqual(run, steps_of("learn 1; send 1 2; arrive 2 0; send 1 2"))
        self.assertEqual(state_after(GREAT, run)[6], (0, 0, 2))

    def test_it_is_a_run_with_the_same_events_that_shows_the_same(self):
        dice = random.Random(18)
        found = []
        for _ in range(600):
            house = random_house(dice, least=2)
            key = dice.randrange(len(house[3]))
            small = case_house(house, key)
            run = random_run(dice, small, 200)
            great = embed(house, key, run)
            events = [event[:-2] + (key, event[-1]) for event in events_of(small, run)]
            self.assertEqual(events_of(house, great), events)
            self.assertEqual(project(house, great, key, 0, 1), in_order_of_sending(small, run))
            for question in ASKED:
                self.assertIs(run_shows(house, question, great), run_shows(small, question, run))
                found += [question] * run_shows(house, question, great)
        self.assertEqual(set(found), set(ASKED))

    def test_a_key_with_one_letter_raises_bad_key(self):
        self.assertIs(error_of(embed, (GREAT, 0, [])), BadKey)
        self.assertIs(error_of(embed, (GREAT, 1, [])), None)

    def test_a_house_with_one_sender_raises_bad_key(self):
        for senders, error in ((1, BadKey), (2, None), (3, None)):
            self.assertIs(error_of(embed, (built("show", senders=senders), 0, [])), error)
        # The key comes ahead of the run.
        self.assertIs(error_of(embed, (built("show", senders=1), 0, None)), BadKey)

    def test_the_run_is_one_of_the_small_house(self):
        for step in ("learn 2", "send 0 1", "arrive 1 0"):
            with self.assertRaises(BadStep) as caught:
                embed(GREAT, 1, steps_of("learn 0; learn 1; " + step))
            self.assertEqual(caught.exception.place, 2)
        # The great house has three letters of this key.
        text = "learn 0; send 0 0; arrive 0 0; send 0 0; arrive 0 1; send 0 0"
        with self.assertRaises(BadStep) as caught:
            embed(GREAT, 2, steps_of(text))
        self.assertEqual(caught.exception.place, 5)


def in_order_of_sending(house, run):
    """Return the run in which a sender that sends nothing is left out and the first one that sends is 0."""
    senders = []
    for step in run:
        if step[0] == "send" and step[1] not in senders:
            senders.append(step[1])
    renamed = []
    for step in run:
        if step[0] not in ("send", "learn", "hear"):
            renamed.append(step)
        elif step[1] in senders:
            renamed.append((step[0], senders.index(step[1])) + step[2:])
    return renamed


class EmbedArguments(Refusals, unittest.TestCase):
    function = [embed]
    goods = [(GREAT, 1, SMALL_RUN), (GREAT, 2, steps_of("learn 1; send 1 0; word")), (built("show"), 0, [])]

    def wrongs(self, good):
        return [
            ("house", BadHouse, bad_houses(good[0])),
            ("key", BadKey, bad_integers(0, len(good[0][3]) - 1) + ([0] if good[0] == GREAT else [])),
            ("run", BadStep, bad_runs()),
        ]


def renamings(counts):
    """Return all renamings of counts, by the words of point 6."""
    return [
        lanes for lanes in itertools.permutations(range(max(counts)))
        if all(lanes[lane] < count for count in counts for lane in range(count))
    ]


def renamed_house(house, lanes):
    """Return the house with its courses renamed, lane by lane."""
    courses = tuple(tuple(lanes[lane] for lane in course) for course in house[3])
    return house[:3] + (courses,) + house[4:]


class RenamedRun(unittest.TestCase):
    house = built("show tell open", (2, 4), ((0, 2), (1, 3)), (2, 2), 3, notes="behind", steady=False)
    steps = steps_of("""
        learn 0; learn 2; send 0 0; send 2 1; word; word; hear 2; arrive 1 0; arrive 0 0; take 1; hand 1; take 1; note 1;
        send 2 1; arrive 1 1; word; take 3; learn 1
    """)

    def test_lanes_and_senders_are_renamed(self):
        self.assertEqual(renamed_run(self.house, (1, 0, 3, 2), (2, 0, 1), self.steps), steps_of("""
            learn 2; learn 1; send 2 0; send 1 1; word; word; hear 1; arrive 1 0; arrive 0 0; take 0; hand 0; take 0;
            note 0; send 1 1; arrive 1 1; word; take 2; learn 0
        """))

    def test_lanes_alone(self):
        self.assertEqual(renamed_run(self.house, (0, 1, 3, 2), (0, 1, 2), self.steps), steps_of("""
            learn 0; learn 2; send 0 0; send 2 1; word; word; hear 2; arrive 1 0; arrive 0 0; take 1; hand 1; take 1;
            note 1; send 2 1; arrive 1 1; word; take 2; learn 1
        """))

    def test_the_same_names_give_the_same_run(self):
        self.assertEqual(renamed_run(self.house, (0, 1, 2, 3), (0, 1, 2), self.steps), self.steps)
        self.assertIsNot(renamed_run(self.house, (0, 1, 2, 3), (0, 1, 2), self.steps), self.steps)

    def test_again_has_no_lane_and_no_sender(self):
        house = built("show close tell", (2, 2))
        run = steps_of("learn 0; send 0 0; word; word; arrive 0 0; word; hear 0; again 0 0")
        expected = steps_of("learn 1; send 1 0; word; word; arrive 0 0; word; hear 1; again 0 0")
        self.assertEqual(renamed_run(house, (1, 0), (1, 0), run), expected)

    def test_it_is_a_run_of_the_renamed_house_with_the_same_events_but_for_the_lanes(self):
        dice = random.Random(6)
        for _ in range(500):
            house = random_house(dice)
            lanes = dice.choice(renamings(house[2]))
            senders = tuple(dice.sample(range(house[5]), house[5]))
            run = random_run(dice, house, 200)
            renamed = renamed_run(house, lanes, senders, run)
            events = [
                ("take", lanes[event[1]]) + event[2:] if event[0] == "take" else event for event in events_of(house, run)
            ]
            self.assertEqual(events_of(renamed_house(house, lanes), renamed), events)
            back_lanes = tuple(lanes.index(lane) for lane in range(len(lanes)))
            back_senders = tuple(senders.index(sender) for sender in range(len(senders)))
            self.assertEqual(renamed_run(renamed_house(house, lanes), back_lanes, back_senders, renamed), run)

    def test_what_is_a_renaming_of_counts(self):
        for counts in itertools.chain(itertools.product((1, 2, 3, 4), repeat=2), [(1, 3, 4), (2, 2, 4), (3, 1, 2)]):
            plan = "show" if len(counts) == 2 else "show show"
            house = built(plan, counts, ((0,) * len(counts),))
            good = renamings(counts)
            for lanes in itertools.chain(*[itertools.product(range(4), repeat=many) for many in range(6)]):
                error = error_of(renamed_run, (house, lanes, (0, 1), []))
                self.assertIs(error, None if lanes in good else BadRenaming, (counts, lanes))

    def test_alike_courses_are_renamed_to_each_other(self):
        for counts in ((2, 3), (3, 2), (1, 4), (2, 4, 3), (4, 4)):
            for course in all_courses(counts):
                alike = [tuple(lanes[lane] for lane in course) for lanes in renamings(counts)]
                self.assertIn(min(alike), small_courses(counts))

    def test_each_sender_once(self):
        for senders in (1, 2, 3):
            house = built("show", senders=senders)
            for thing in itertools.chain(*[itertools.product(range(-1, 4), repeat=many) for many in range(5)]):
                error = error_of(renamed_run, (house, (0, 1), thing, []))
                good = sorted(thing) == list(range(senders))
                self.assertIs(error, None if good else BadRenaming, (senders, thing))

    def test_the_place_of_a_bad_step(self):
        with self.assertRaises(BadStep) as caught:
            renamed_run(self.house, (1, 0, 3, 2), (2, 0, 1), self.steps[:4] + [("take", 0)])
        self.assertEqual(caught.exception.place, 4)

    def test_nothing_that_is_passed_is_changed(self):
        run = list(self.steps)
        renamed_run(self.house, (1, 0, 3, 2), (2, 0, 1), run)
        embed(GREAT, 1, run[:1])
        self.assertEqual(run, self.steps)


class RenamedRunArguments(Refusals, unittest.TestCase):
    function = [renamed_run]
    goods = [
        (RenamedRun.house, (1, 0, 3, 2), (2, 0, 1), RenamedRun.steps), (built("show"), (0, 1), (1, 0), []),
        (built("show", (1, 1), ((0, 0),), senders=1), (0,), (0,), [("word",)]),
    ]

    def wrongs(self, good):
        house, lanes, senders, _ = good
        return [
            ("house", BadHouse, bad_houses(house)),
            ("lanes", BadRenaming, bad_renamings(lanes)),
            ("senders", BadRenaming, bad_renamings(senders)),
            ("run", BadStep, bad_runs()),
        ]


def bad_renamings(good):
    """Return what is no renaming, much of it near this one."""
    near = [list(good), dict(enumerate(good)), good + good[:1], good[:-1], good[:-1] + (good[-1] + 1,), set(good)]
    near += [replaced(good, (place,), bool(part)) for place, part in enumerate(good) if part in (0, 1)]
    near += [tuple(map(str, good)), (good,), good[:-1] + (None,), good[:-1] + ([good[-1]],)]
    return strange() + no_integers() + [0, 1] + near


if __name__ == "__main__":
    unittest.main()
