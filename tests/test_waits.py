"""Points 24 and 25: plans with waits put in, the waits that are needed, and what can be shown without one."""

import itertools
import random
import unittest

from cases import EXAMPLE, HANDED, case_of
from model import Atlas, random_case, random_plan
from refusals import Refusals, error_of
from spots import all_spots, bad_lots, bad_spots, put_in, with_lot
from things import ALL_QUESTIONS, bad_cases, bad_plans, no_integers, strange

from lanescounted.answers import answer_holds, answer_to
from lanescounted.errors import BadCase, BadQuestion, BadSpot, NotEnough, TooMany
from lanescounted.waits import least_waits, runs_against, with_waits

ASKED = ("order", "twice", "lost")
DOCUMENT = ((False, False, "lost", "with", True), ("show", "close", "drain", "tell", "open"), (1, 2), (0, 1))
NEEDED = [(4, "agree"), (4, "clear")]
# Here each wait of this lot is needed against "order".
OPENED = case_of("show close open")


def some_spots(dice, plan, many):
    """Return a list of so many spots of a plan."""
    return dice.sample(all_spots(plan), many)


def turning_case(dice):
    """Return some case of a key that changes its lane, by a plan in which a wait may be needed."""
    words = dice.choices(("close", "open", "tell", "copy"), k=dice.randint(0, 2))
    refused, notes = dice.choice(("back", "lost")), dice.choice(("behind", "with"))
    scheme = (dice.choice((True, False)), dice.random() < 0.8, refused, notes, True)
    return (scheme, ("show", "close", *words, dice.choice(("open", "tell"))), (1, 2), (0, 1))


def shown(case, questions, spots):
    """Tell whether one of the questions can be shown with some waits."""
    return any(answer_to(with_lot(case, spots), question)[0] == "run" for question in questions)


class WithWaits(unittest.TestCase):
    def test_the_place_of_each_word(self):
        plan = ("show", "open")
        for lot, text in (
            ((), "show open"), (((0, "agree"),), "agree show open"), (((1, "drain"),), "show drain open"),
            (((2, "clear"),), "show open clear"), (((0, "agree"), (2, "agree")), "agree show open agree"),
            (((1, "agree"), (1, "clear"), (1, "drain")), "show agree clear drain open"),
            (((0, "drain"), (1, "clear"), (2, "agree")), "drain show clear open agree"),
        ):
            self.assertEqual(with_waits(plan, lot), tuple(text.split()))

    def test_all_spots_of_a_plan(self):
        words = ("agree", "clear", "drain")
        self.assertEqual(with_waits(("show",), tuple(all_spots(("show",)))), words + ("show",) + words)

    def test_against_a_second_reading(self):
        dice = random.Random(24)
        for _ in range(400):
            plan = random_plan(dice, 13)
            lot = tuple(sorted(some_spots(dice, plan, dice.randint(0, min(15 - len(plan), 3 * len(plan) + 3)))))
            self.assertEqual(with_waits(plan, lot), put_in(plan, lot))
            self.assertIs(type(with_waits(plan, lot)), tuple)

    def test_fifteen_words_and_no_more(self):
        for many in range(1, 16):
            plan = ("show",) + ("open",) * (many - 1)
            spots = all_spots(plan)
            for more in range(len(spots)):
                error = error_of(with_waits, (plan, tuple(spots[:more])))
                self.assertIs(error, TooMany if many + more > 15 else None)

    def test_what_is_no_lot_comes_ahead_of_too_many(self):
        plan = ("show",) * 2 + ("open",) * 13
        self.assertIs(error_of(with_waits, (plan, ((0, "agree"),))), TooMany)
        self.assertIs(error_of(with_waits, (plan, ((0, "agree"), (0, "agree")))), BadSpot)
        self.assertIs(error_of(with_waits, (plan, ((15, "drain"),))), TooMany)
        self.assertIs(error_of(with_waits, (plan, ((16, "drain"),))), BadSpot)


class Lots(unittest.TestCase):
    def test_what_is_no_lot(self):
        for plan in (("show",), ("show", "close", "open")):
            last = len(plan)
            for lot in (
                ((last + 1, "agree"),), ((-1, "agree"),), ((0, "show"),), ((0, "tell"),), ((0, "Agree"),), ((0, 0),),
                (("agree", 0),), ((0, "agree", 0),), ((0,),), (0, "agree"), ("agree",), ((False, "agree"),), ((True, "drain"),),
                ([0, "agree"],), [(0, "agree")], ((0, "clear"), (0, "agree")), ((1, "agree"), (0, "drain")),
                ((0, "agree"), (0, "agree")), ((0, "agree"), None), ("agree", "clear"), {(0, "agree"): 1}, None, (None,),
            ):
                self.assertIs(error_of(with_waits, (plan, lot)), BadSpot)
                case = (EXAMPLE[0], plan, (1, 2), (0, 1))
                self.assertIs(error_of(runs_against, (case, ["order"], lot)), BadSpot)


class LeastWaits(unittest.TestCase):
    def test_the_example_of_the_document(self):
        self.assertEqual(least_waits(DOCUMENT, ["order"], NEEDED), [tuple(NEEDED)])
        self.assertEqual(least_waits(DOCUMENT, ["order"], NEEDED[::-1]), [tuple(NEEDED)])
        self.assertEqual(least_waits(DOCUMENT, ["order"], NEEDED[:1]), [])
        self.assertEqual(least_waits(DOCUMENT, ["order"], NEEDED[1:]), [])
        self.assertEqual(least_waits(DOCUMENT, ["order"], []), [])

    def test_nothing_is_needed(self):
        case = case_of("show close drain open")
        for spots in ([], [(3, "agree")], [(3, "agree"), (0, "drain"), (4, "clear")]):
            self.assertEqual(least_waits(case, ["order"], spots), [()])
            self.assertEqual(least_waits(case, ["twice", "order"], spots), [()])

    def test_known_lots(self):
        behind = {"notes": "behind", "asks": True, "refused": "lost"}
        for case, questions, spots, lots in (
            (OPENED, ["order"], [(2, "drain"), (3, "drain"), (1, "drain")], [((2, "drain"),)]),
            (OPENED, ["order"], [(2, "clear"), (3, "drain")], []),
            (case_of("show close tell open", **behind), ["twice", "order"], [(2, "agree"), (2, "drain"), (0, "clear")],
             [((2, "agree"),), ((2, "drain"),)]),
            (case_of("show close tell open", **behind), ["lost", "order"], [(2, "agree"), (2, "drain"), (0, "clear")], []),
            (case_of("show close close open copy", notes="behind"), ["twice", "lost", "order"],
             [(3, "agree"), (2, "clear"), (2, "agree")], [((2, "agree"),), ((3, "agree"),)]),
            (case_of("show drop open drop close", asks=True, paced=False, refused="lost", notes="first"), ["lost", "twice"],
             [(5, "drain"), (4, "clear"), (3, "agree")], [((3, "agree"), (4, "clear"))]),
        ):
            self.assertEqual(least_waits(case, questions, spots), lots)

    def test_no_waits_are_enough(self):
        for spots in ([], [(0, "agree")], [(1, "agree"), (1, "clear"), (1, "drain")]):
            self.assertEqual(least_waits(HANDED, ["twice"], spots), [])
            self.assertEqual(least_waits(HANDED, ["order", "twice"], spots), [])

    def test_against_trying_all_lots_of_the_spots(self):
        dice = random.Random(25)
        kinds = []
        for _ in range(150):
            case = dice.choice((turning_case, turning_case, random_case))(dice)
            if len(case[1]) > 5:
                continue
            spots = some_spots(dice, case[1], dice.choice((0, 1, 2, 3, 3)))
            questions = dice.sample(ASKED, dice.randint(1, 2))
            good = [
                tuple(sorted(lot)) for many in range(len(spots) + 1) for lot in itertools.combinations(spots, many)
                if not shown(case, questions, lot)
            ]
            least = [lot for lot in good if all(shown(case, questions, set(lot) - {spot}) for spot in lot)]
            found = least_waits(case, questions, list(spots))
            self.assertEqual(found, sorted(least), (case, questions, spots))
            kinds.append("none" if not found else "nothing" if found == [()] else "some")
        self.assertGreater(kinds.count("some"), 3)
        self.assertGreater(kinds.count("none"), 10)
        self.assertGreater(kinds.count("nothing"), 10)

    def test_a_wait_only_takes_runs_away(self):
        dice = random.Random(252)
        kept = 0
        for _ in range(60):
            case = random_case(dice, 5)
            more = some_spots(dice, case[1], 3)
            for question in ASKED:
                if not shown(case, [question], more[:dice.randint(0, 2)]):
                    kept += 1
                    self.assertFalse(shown(case, [question], more))
        self.assertGreater(kept, 60)

    def test_against_the_model(self):
        for spots in ([], NEEDED[:1], NEEDED[1:], NEEDED):
            least = Atlas(with_lot(DOCUMENT, spots)).least("order")
            self.assertEqual(least is None, spots == NEEDED)

    def test_waits_at_the_place_0_and_at_the_end(self):
        case = case_of("show open")
        for spots in ([(0, "agree"), (0, "clear"), (0, "drain")], [(2, "agree"), (2, "clear"), (2, "drain")]):
            self.assertEqual(least_waits(case, ["order"], spots), [])

    def test_fifteen_words_and_three_spots(self):
        plan = ("show",) + ("agree",) * 11
        case = (EXAMPLE[0], plan, (1, 1), (0, 0))
        spots = all_spots(plan)
        self.assertEqual(least_waits(case, ["lost"], spots[:3]), [()])
        self.assertIs(error_of(least_waits, (case, ["lost"], spots[:4])), TooMany)
        longer = (EXAMPLE[0], plan + ("agree",), (1, 1), (0, 0))
        self.assertEqual(least_waits(longer, ["lost"], spots[:2]), [()])
        self.assertIs(error_of(least_waits, (longer, ["lost"], spots[:3])), TooMany)

    def test_what_is_passed_stays(self):
        questions, spots = ["twice", "order"], list(NEEDED)
        first = least_waits(DOCUMENT, questions, spots)
        self.assertEqual((questions, spots), (["twice", "order"], NEEDED))
        spots.clear()
        first.clear()
        self.assertEqual(least_waits(DOCUMENT, questions, NEEDED), [tuple(NEEDED)])


class RunsAgainst(unittest.TestCase):
    def check(self, case, questions, lot):
        """Return for each spot which question is told, each with a run that shows it."""
        found = runs_against(case, questions, lot)
        self.assertIs(type(found), list)
        self.assertEqual(len(found), len(lot))
        told = []
        for number, entry in enumerate(found):
            rest = lot[:number] + lot[number + 1:]
            possible = [question for question in questions if shown(case, [question], rest)]
            if entry is None:
                self.assertEqual(possible, [])
            else:
                self.assertIs(type(entry), tuple)
                question, steps = entry
                self.assertEqual(question, possible[0])
                self.assertIs(answer_holds(with_lot(case, rest), question, ("run", steps)), True)
            told.append(entry and entry[0])
        return told

    def test_the_example_of_the_document(self):
        self.assertEqual(self.check(DOCUMENT, ["order"], tuple(NEEDED)), ["order", "order"])
        more = ((0, "agree"), (4, "agree"), (4, "clear"), (5, "drain"))
        self.assertEqual(self.check(DOCUMENT, ["order"], more[:3]), [None, "order", "order"])
        self.assertEqual(self.check(DOCUMENT, ["order"], more[1:]), ["order", "order", None])

    def test_no_wait_is_needed(self):
        case = case_of("show close drain open")
        self.assertEqual(self.check(case, ["order", "lost"], ()), [])
        self.assertEqual(self.check(case, ["order"], ((0, "agree"), (3, "drain"), (4, "clear"))), [None] * 3)

    def test_some_cases(self):
        told, dice = [], random.Random(26)
        while len(told) - told.count(None) < 6:
            case = turning_case(dice)
            lot = tuple(sorted(some_spots(dice, case[1], dice.randint(1, 3))))
            questions = dice.sample(ASKED, dice.randint(1, 3))
            if not shown(case, questions, lot):
                told += self.check(case, questions, lot)

    def test_two_questions_by_one_spot(self):
        case = ((False, True, "back", "behind", True), ("show", "close", "open", "copy"), (1, 2), (0, 1))
        lot = ((2, "drain"),)
        self.assertFalse(shown(case, ASKED, lot))
        self.assertEqual(self.check(case, ["order", "twice"], lot), ["order"])
        self.assertEqual(self.check(case, ["twice", "order"], lot), ["twice"])
        self.assertEqual(self.check(case, ["lost", "twice", "order"], lot), ["twice"])
        self.assertEqual(self.check(case, ["lost"], lot), [None])

    def test_not_enough(self):
        self.assertIs(error_of(runs_against, (DOCUMENT, ["order"], ())), NotEnough)
        self.assertIs(error_of(runs_against, (DOCUMENT, ["order"], tuple(NEEDED[:1]))), NotEnough)
        self.assertIs(error_of(runs_against, (DOCUMENT, ["order", "lost"], tuple(NEEDED))), NotEnough)
        self.assertIs(error_of(runs_against, (DOCUMENT, ["twice"], ())), None)

    def test_too_many_comes_ahead_of_not_enough(self):
        spots = tuple(all_spots(DOCUMENT[1]))
        self.assertIs(error_of(runs_against, (DOCUMENT, ["order"], spots[:3])), NotEnough)
        self.assertIs(error_of(runs_against, (DOCUMENT, ["order"], spots[:4])), TooMany)
        plan = ("show", "open") + ("tell",) * 12
        case = (EXAMPLE[0], plan, (1, 2), (0, 1))
        self.assertIs(error_of(runs_against, (case, ["order"], spots[:1])), NotEnough)
        self.assertIs(error_of(runs_against, (case, ["order"], spots[:2])), TooMany)

    def test_lists_that_are_returned_are_new(self):
        first = runs_against(DOCUMENT, ["order"], tuple(NEEDED))
        kept = [(question, list(steps)) for question, steps in first]
        first[0][1].clear()
        first.clear()
        self.assertEqual(runs_against(DOCUMENT, ["order"], tuple(NEEDED)), kept)


def bad_question_lists():
    """Return what is no list of one to three of the questions that waits can settle."""
    lists = [[thing] for thing in strange() + no_integers()] + [["order", thing] for thing in strange()]
    others = [["late"], ["stuck"], ["left"], ["order", "left"], list(ALL_QUESTIONS), ["order", "order"]]
    others += [["lost", "order", "lost"], ["order", "twice", "lost", "order"], [["order"]], [("order",)]]
    near = ["order", ("order",), ("order", "lost"), {"order": 1}, {"order"}, ["order "], ["twice,lost"]]
    return strange() + no_integers() + lists + others + near


def bad_spot_lists(plan):
    """Return what is no list of spots of a plan, without duplicates."""
    good = (0, "agree")
    lists = [[thing] for thing in bad_spots(plan)] + [[good, thing] for thing in bad_spots(plan)[::3]]
    others = [(), (good,), good, {good: 1}, {good}, [good, good], [good, (1, "agree"), good], [list(good)], [good] * 9]
    return [thing for thing in strange() + no_integers() if type(thing) is not list or thing] + lists + others


class WithWaitsArguments(Refusals, unittest.TestCase):
    function = [with_waits]
    goods = [(("show",), ()), (("show", "open"), ((0, "agree"), (2, "drain")))]

    def wrongs(self, good):
        return [("plan", BadCase, bad_plans(good[0])), ("lot", BadSpot, bad_lots(good[0]))]


class LeastWaitsArguments(Refusals, unittest.TestCase):
    function = [least_waits]
    goods = [(EXAMPLE, ["order"], []), (case_of("show"), ["twice", "lost"], [(1, "drain"), (0, "clear")])]

    def wrongs(self, good):
        return [
            ("case", BadCase, bad_cases(good[0])), ("questions", BadQuestion, bad_question_lists()),
            ("spots", BadSpot, bad_spot_lists(good[0][1])),
        ]


class RunsAgainstArguments(Refusals, unittest.TestCase):
    function = [runs_against]
    goods = [(case_of("show"), ["twice", "lost"], ()), (DOCUMENT, ["order"], tuple(NEEDED))]

    def wrongs(self, good):
        return [
            ("case", BadCase, bad_cases(good[0])), ("questions", BadQuestion, bad_question_lists()),
            ("lot", BadSpot, bad_lots(good[0][1])),
        ]


if __name__ == "__main__":
    unittest.main()
