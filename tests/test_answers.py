"""Points 19 and 20: answers to questions, and which objects are answers that hold."""

import random
import unittest

from cases import EXAMPLE, HANDED, IN_HAND, KNOWN, SHUT, STUCK, TOLD, answers_of_the_model, case_of
from model import loaded, replayed
from refusals import Refusals
from things import ALL_QUESTIONS, bad_cases, bad_questions, bad_runs, no_integers, paths_of, part_at, replaced, strange
from things import steps_of

from lanescounted.answers import answer_holds, answer_to
from lanescounted.errors import BadCase, BadQuestion
from lanescounted.houses import house_of


def proves(case, atlas, question, steps):
    """Tell whether a run shows the question, by the model."""
    model, shown = replayed(house_of(case), []), set()
    for step in steps:
        assert model.can(step), (case, steps)
        shown |= model.do(step)[1]
    if question in ("stuck", "left"):
        return atlas.ranks(question)[model.state()] is None
    return question in shown


class AnswerTo(unittest.TestCase):
    def test_known_answers(self):
        for case, question, least in KNOWN:
            word, told = answer_to(case, question)
            self.assertEqual(word, "never" if least is None else "run", (case, question))
            if least is not None:
                self.assertEqual(len(told), least, (case, question))

    def test_answers_are_those_of_the_model(self):
        seen = set()
        for case, atlas, question, least in answers_of_the_model():
            answer = answer_to(case, question)
            self.assertIs(type(answer), tuple)
            self.assertEqual([type(part) for part in answer], [str, list])
            if least is None:
                self.assertEqual(answer, ("never", atlas.entries(question)), (case, question))
            else:
                word, steps = answer
                self.assertEqual((word, len(steps)), ("run", least), (case, question))
                self.assertTrue(proves(case, atlas, question, steps), (case, question))
            seen.add((question, least is None))
        self.assertEqual(len(seen), 12)

    def test_the_least_ways_on_of_an_example(self):
        word, ranks = answer_to(TOLD, "stuck")
        ranks = dict(ranks)
        self.assertEqual(word, "never")
        self.assertEqual({ranks[state] for state in ranks if state[0] == 3}, {0})
        for text, number in (("", 3), ("word", 2), ("learn 0", 4), ("learn 0; learn 1", 5), ("learn 0; word; word", 2),
                             ("word; word; learn 0", 1), ("learn 0; learn 1; word; word; hear 0", 2)):
            state = replayed(house_of(TOLD), steps_of(text)).state()
            self.assertEqual(ranks[state], number, text)

    def test_the_least_ways_to_take_what_was_sent(self):
        word, ranks = answer_to(EXAMPLE, "left")
        ranks = dict(ranks)
        self.assertEqual(word, "never")
        for text, number in (("", 0), ("learn 0", 0), ("learn 0; send 0 0", 2), ("learn 0; send 0 0; arrive 0 0", 1),
                             ("learn 0; send 0 0; arrive 0 0; take 0", 0), ("word; word; learn 0; send 0 0", 2),
                             ("learn 0; send 0 0; arrive 0 0; send 0 0", 3)):
            self.assertEqual(ranks[replayed(house_of(EXAMPLE), steps_of(text)).state()], number, text)

    def test_states_ascend_and_come_once(self):
        for question in ALL_QUESTIONS[1:]:
            word, entries = answer_to(EXAMPLE, question)
            self.assertEqual(word, "never")
            self.assertEqual(entries, sorted(set(entries)))

    def test_a_list_that_is_returned_is_new(self):
        for case, question in ((EXAMPLE, "order"), (EXAMPLE, "late"), (TOLD, "stuck"), (SHUT, "left")):
            first = answer_to(case, question)
            kept = (first[0], list(first[1]))
            first[1].clear()
            self.assertEqual(answer_to(case, question), kept)

    def test_plans_of_eight_words(self):
        plan = "show open tell agree clear drain drop close"
        for notes, question, word in (("with", "order", "run"), ("behind", "lost", "never"), ("first", "stuck", "never")):
            case = case_of(plan, (2, 3), (0, 2), asks=True, paced=False, notes=notes, steady=False)
            answer = answer_to(case, question)
            self.assertEqual(answer[0], word)
            self.assertIs(answer_holds(case, question, answer), True)


class RunsHold(unittest.TestCase):
    def holds(self, case, question, steps, expected):
        self.assertIs(answer_holds(case, question, ("run", steps)), expected, (case, question))

    def test_runs_that_show_it(self):
        for case, _, question, least in answers_of_the_model():
            if least is not None:
                self.holds(case, question, answer_to(case, question)[1], True)

    def test_a_run_may_be_longer_than_any_shortest_one(self):
        text = "learn 1; learn 0; send 0 0; arrive 0 0; word; word; send 1 0; arrive 0 1; take 0; take 0"
        self.holds(EXAMPLE, "order", steps_of(text), False)
        text = "learn 0; send 0 0; arrive 0 0; word; word; learn 1; send 1 0; arrive 0 1; take 1; take 0"
        self.holds(EXAMPLE, "order", steps_of(text), True)
        self.holds(STUCK, "stuck", steps_of("learn 0; learn 1; word"), True)
        self.holds(SHUT, "left", steps_of("learn 0; send 0 0; word; word; arrive 0 0"), True)

    def test_a_run_that_does_not_show_it(self):
        self.holds(EXAMPLE, "order", [], False)
        self.holds(STUCK, "stuck", [], False)
        self.holds(STUCK, "stuck", steps_of("word; word"), False)
        self.holds(SHUT, "left", steps_of("learn 0; send 0 0; word"), False)
        for case, _, question, least in answers_of_the_model():
            if least is not None:
                self.holds(case, question, answer_to(case, question)[1][:-1], False)

    def test_stuck_and_left_are_shown_by_the_state_that_is_left(self):
        for case, atlas, question, _ in answers_of_the_model():
            if question in ("stuck", "left"):
                ranks = atlas.ranks(question)
                for state, rank in random.Random(20).sample(sorted(ranks.items(), key=str), min(6, len(ranks))):
                    self.holds(case, question, path_to(atlas, state), rank is None)

    def test_the_first_four_are_shown_by_any_step(self):
        text = "learn 0; send 0 0; arrive 0 0; take 0; hand 0; take 0; "
        for more in ("", "note 0", "send 0 0; arrive 0 1; take 0; note 0; word"):
            self.holds(HANDED, "twice", steps_of(text + more), True)

    def test_up_to_two_hundred_steps(self):
        steps = steps_of("learn 0; send 0 0; arrive 0 0; " + "take 0; hand 0; " * 98 + "take 0")
        self.assertEqual(len(steps), 200)
        self.holds(HANDED, "twice", steps, True)
        self.holds(HANDED, "twice", steps + steps_of("hand 0"), False)
        steps = steps_of("learn 0; send 0 0; arrive 0 0; " + "take 0; hand 0; " * 98 + "word")
        self.assertEqual(len(steps), 200)
        case = case_of("show agree", (1, 1), (0, 0), notes="behind", steady=False)
        self.holds(case, "stuck", steps, True)
        self.holds(case, "stuck", steps + steps_of("take 0"), False)

    def test_what_is_no_run(self):
        good = answer_to(EXAMPLE, "order")[1]
        for thing in bad_runs() + [tuple(good), good + [("word",)], good[:-1] + [("take", True)], [good], good * 2]:
            self.holds(EXAMPLE, "order", thing, False)
            self.holds(STUCK, "stuck", thing, False)
        for place, step in enumerate(good):
            self.holds(EXAMPLE, "order", good[:place] + [list(step)] + good[place + 1:], False)


def path_to(atlas, target):
    """Return the steps of some run that leaves this state."""
    paths, waiting = {atlas.first: []}, [atlas.first]
    while target not in paths:
        state = waiting.pop(0)
        for step, behind, _ in atlas.moves[state]:
            if behind not in paths:
                paths[behind] = paths[state] + [step]
                waiting.append(behind)
    return paths[target]


class NeverHolds(unittest.TestCase):
    cases = [(EXAMPLE, "late"), (EXAMPLE, "lost"), (TOLD, "stuck"), (EXAMPLE, "left"), (IN_HAND, "twice")]

    def holds(self, case, question, entries, expected):
        self.assertIs(answer_holds(case, question, ("never", entries)), expected, (case, question))

    def test_true_answers(self):
        for case, atlas, question, least in answers_of_the_model():
            self.holds(case, question, atlas.entries(question), least is None)

    def test_in_any_order_and_with_duplicates(self):
        for case, question in self.cases:
            entries = answer_to(case, question)[1]
            self.holds(case, question, entries[::-1], True)
            self.holds(case, question, entries + entries[3:9], True)
            self.holds(case, question, entries[:1] * 5 + entries, True)
            random.Random(1).shuffle(entries)
            self.holds(case, question, entries, True)

    def test_one_too_few_or_too_many(self):
        for case, question in self.cases:
            entries = answer_to(case, question)[1]
            self.holds(case, question, [], False)
            for place in (0, 1, len(entries) // 2, len(entries) - 1):
                self.holds(case, question, entries[:place] + entries[place + 1:], False)
            for thing in strange() + no_integers() + [(), entries[0][:-1], list(entries[0]), [entries[0]], (entries[0],)]:
                self.holds(case, question, entries + [thing], False)

    def test_a_state_that_no_run_has(self):
        entries = answer_to(EXAMPLE, "late")[1]
        for place in range(9):
            state = replaced(entries[-1], (place,), entries[0][place])
            self.holds(EXAMPLE, "late", entries + [state], state in entries)
        entries = answer_to(TOLD, "stuck")[1]
        self.holds(TOLD, "stuck", entries + [((9,) + entries[0][0][1:], 1)], False)

    def test_other_numbers(self):
        for case, question in ((TOLD, "stuck"), (EXAMPLE, "left")):
            entries = answer_to(case, question)[1]
            for place in (0, len(entries) // 3, len(entries) - 1):
                state, number = entries[place]
                for other in (number + 1, number - 1, number + 10 ** 50, None, str(number), (number,)):
                    self.holds(case, question, entries[:place] + [(state, other)] + entries[place + 1:], False)
                    self.holds(case, question, entries + [(state, other)], False)
            self.holds(case, question, [state for state, _ in entries], False)
            self.holds(case, question, [state + (number,) for state, number in entries], False)
            self.holds(case, question, [(number, state) for state, number in entries], False)

    def test_true_and_lists_in_the_place_of_a_number_or_a_tuple(self):
        for case, question in self.cases:
            entries = answer_to(case, question)[1]
            for place in (0, len(entries) // 2, len(entries) - 1):
                for path in paths_of(entries[place]):
                    part = part_at(entries[place], path)
                    wrong = list(part) if isinstance(part, tuple) else bool(part) if part in (0, 1) else str(part)
                    spoiled = replaced(entries[place], path, wrong)
                    self.holds(case, question, entries[:place] + [spoiled] + entries[place + 1:], False)
                    self.holds(case, question, entries + [spoiled], False)

    def test_a_tuple_of_all_states_is_no_list(self):
        for case, question in self.cases:
            entries = answer_to(case, question)[1]
            self.holds(case, question, tuple(entries), False)
            self.holds(case, question, dict.fromkeys(entries), False)
            self.holds(case, question, set(entries), False)

    def test_states_for_ranks_and_ranks_for_states(self):
        self.holds(EXAMPLE, "left", answer_to(EXAMPLE, "late")[1], False)
        self.holds(EXAMPLE, "late", answer_to(EXAMPLE, "left")[1], False)

    def test_if_a_run_shows_it(self):
        self.holds(EXAMPLE, "order", answer_to(EXAMPLE, "late")[1], False)
        self.holds(STUCK, "stuck", [(state, 0) for state in answer_to(STUCK, "late")[1]], False)


class AnyAnswer(unittest.TestCase):
    def test_what_is_no_tuple_of_two(self):
        run, never = answer_to(EXAMPLE, "order"), answer_to(EXAMPLE, "late")
        for question, good in (("order", run), ("late", never)):
            self.assertIs(answer_holds(EXAMPLE, question, good), True)
            for thing in strange() + no_integers() + [list(good), good[::-1], good[1], good[0], good + (1,), good[:1],
                                                      (good,), {good[0]: good[1]}]:
                self.assertIs(answer_holds(EXAMPLE, question, thing), False)

    def test_another_word(self):
        run, never = answer_to(EXAMPLE, "order"), answer_to(EXAMPLE, "late")
        for question, good in (("order", run), ("late", never)):
            others = {"order": "never", "late": "run"}
            for word in strange() + no_integers() + [others[question], good[0].upper(), good[0] + " ", ""]:
                self.assertIs(answer_holds(EXAMPLE, question, (word, good[1])), False)

    def test_anything_in_the_place_of_the_list(self):
        for question in ALL_QUESTIONS:
            for word in ("run", "never"):
                for thing in strange() + no_integers():
                    self.assertIs(answer_holds(EXAMPLE, question, (word, thing)), False)

    def test_what_is_passed_stays(self):
        answer = answer_to(EXAMPLE, "late")
        kept = list(answer[1])
        answer_holds(EXAMPLE, "late", answer)
        self.assertEqual(answer, ("never", kept))

    def test_by_name(self):
        answer = answer_to(EXAMPLE, "order")
        self.assertIs(answer_holds(answer=answer, question="order", case=EXAMPLE), True)
        self.assertIs(answer_holds(answer=answer, question="late", case=EXAMPLE), False)


class AnswerArguments(Refusals):
    goods = [(EXAMPLE, "order"), (EXAMPLE, "late"), (TOLD, "stuck"), (SHUT, "left")]

    def wrongs(self, good):
        return [("case", BadCase, bad_cases(good[0])), ("question", BadQuestion, bad_questions(ALL_QUESTIONS))]


class AnswerToArguments(AnswerArguments, unittest.TestCase):
    function = [answer_to]


class AnswerHoldsArguments(AnswerArguments, unittest.TestCase):
    function = [lambda case, question: answer_holds(case, question, None)]


class ModelItself(unittest.TestCase):
    def test_a_model_that_is_loaded_has_the_state(self):
        for _, atlas, question, _ in answers_of_the_model():
            if question == "order":
                for state in list(atlas.depths)[::40]:
                    self.assertEqual(loaded(atlas.house, state).state(), state)


if __name__ == "__main__":
    unittest.main()
