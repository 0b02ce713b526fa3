"""Point 21: lists of states that no step leaves, and lists of numbers that can fall."""

import random
import unittest

from cases import EXAMPLE, FENCED, HANDED, IN_HAND, SHUT, STUCK, TOLD, answers_of_the_model
from refusals import Refusals
from things import ALL_QUESTIONS, bad_cases, bad_questions, no_integers, part_at, paths_of, replaced, strange

from lanescounted.answers import answer_to, ranks_fall, states_close
from lanescounted.errors import BadCase, BadQuestion


def twin(state):
    """Return the state with the senders 0 and 1 exchanged in held, way and back."""
    other = list(state)
    other[1] = (state[1][1], state[1][0])
    for place in (2, 3):
        other[place] = tuple(({0: 1, 1: 0}[entry[0]],) + entry[1:] for entry in state[place])
    return tuple(other)


def halves(states):
    """Return two lists of states with just one of each two twins: the lesser one, and the greater one."""
    return [state for state in states if state <= twin(state)], [state for state in states if state >= twin(state)]


class StatesClose(unittest.TestCase):
    known = [(EXAMPLE, "late"), (EXAMPLE, "twice"), (FENCED, "order"), (HANDED, "lost"), (IN_HAND, "twice")]

    def close(self, case, question, states, expected):
        self.assertIs(states_close(case, question, states), expected, (case, question))

    def test_all_states_close_if_no_run_shows_it(self):
        for case, atlas, question, least in answers_of_the_model():
            if question not in ("stuck", "left"):
                self.close(case, question, list(atlas.depths), least is None)

    def test_half_of_them_are_enough(self):
        for case, atlas, question, least in answers_of_the_model():
            if question not in ("stuck", "left"):
                for half in halves(atlas.depths):
                    self.close(case, question, half, least is None)

    def test_halves_are_less(self):
        for case, question in self.known:
            states = answer_to(case, question)[1]
            for half in halves(states):
                self.assertLess(len(half), len(states) * 2 // 3)

    def test_any_choice_of_twins(self):
        dice = random.Random(21)
        for case, question in self.known:
            half = [dice.choice((state, twin(state))) for state in halves(answer_to(case, question)[1])[0]]
            dice.shuffle(half)
            self.close(case, question, half, True)

    def test_in_any_order_and_with_duplicates(self):
        for case, question in self.known:
            states = answer_to(case, question)[1]
            self.close(case, question, states[::-1], True)
            self.close(case, question, states + states[:7], True)

    def test_the_first_state_is_among_them(self):
        for case, question in self.known:
            states = answer_to(case, question)[1]
            first, = [state for state in states if state[0] == 0 and set(state[1]) == {-1}]
            self.close(case, question, [state for state in states if state != first], False)
            self.close(case, question, [], False)

    def test_the_last_states_alone_do_not_close(self):
        # Nothing leads out of them, but the first state is not among them.
        states = answer_to(FENCED, "order")[1]
        self.close(FENCED, "order", [state for state in states if state[0] == 4], False)

    def test_both_twins_missing(self):
        for case, question in self.known:
            states = answer_to(case, question)[1]
            for place in range(0, len(states), len(states) // 5):
                pair = (states[place], twin(states[place]))
                self.close(case, question, [state for state in states if state not in pair], False)
                # One of two twins may be left out.
                left = [state for state in states if state != states[place]]
                self.close(case, question, left, pair[0] != pair[1])

    def test_a_state_that_no_run_has(self):
        states = answer_to(EXAMPLE, "late")[1]
        for place in range(9):
            state = replaced(states[-1], (place,), states[0][place])
            self.close(EXAMPLE, "late", states + [state], state in states)
        # Taken and lost as they are when all is over, but no way leads there.
        self.close(EXAMPLE, "late", states + [replaced(states[-1], (8,), ((0, 0), (0, 1)))], False)

    def test_what_is_no_list_of_states(self):
        for question in ALL_QUESTIONS[1:4]:
            states = answer_to(EXAMPLE, question)[1]
            for thing in strange() + no_integers() + [tuple(states), set(states), dict.fromkeys(states), [states]]:
                self.close(EXAMPLE, question, thing, False)
            for thing in strange() + no_integers() + [0, 1, list(states[0]), (states[0],), states[0][:-1]]:
                self.close(EXAMPLE, question, states + [thing], False)
                self.close(EXAMPLE, question, [thing] + states, False)

    def test_true_and_lists_in_the_place_of_a_number_or_a_tuple(self):
        for case, question in self.known:
            states = answer_to(case, question)[1]
            for place in (0, len(states) // 2, len(states) - 1):
                for path in paths_of(states[place]):
                    part = part_at(states[place], path)
                    wrong = list(part) if isinstance(part, tuple) else bool(part) if part in (0, 1) else str(part)
                    self.close(case, question, states + [replaced(states[place], path, wrong)], False)

    def test_entries_of_another_answer(self):
        self.close(EXAMPLE, "late", answer_to(EXAMPLE, "left")[1], False)

    def test_what_is_passed_stays(self):
        states = answer_to(EXAMPLE, "late")[1]
        kept = list(states)
        self.close(EXAMPLE, "late", states, True)
        self.assertEqual(states, kept)

    def test_by_name(self):
        states = answer_to(EXAMPLE, "late")[1]
        self.assertIs(states_close(states=states, question="late", case=EXAMPLE), True)


class StatesCloseArguments(Refusals, unittest.TestCase):
    function = [lambda case, question: states_close(case, question, None)]
    goods = [(EXAMPLE, "order"), (TOLD, "late")]

    def wrongs(self, good):
        return [("case", BadCase, bad_cases(good[0])), ("question", BadQuestion, bad_questions(ALL_QUESTIONS[:4]))]


class RanksFall(unittest.TestCase):
    known = [(TOLD, "stuck"), (EXAMPLE, "stuck"), (EXAMPLE, "left"), (HANDED, "left"), (IN_HAND, "stuck")]

    def fall(self, case, question, ranks, expected):
        self.assertIs(ranks_fall(case, question, ranks), expected, (case, question))

    def test_the_told_numbers_fall(self):
        for case, atlas, question, least in answers_of_the_model():
            if question in ("stuck", "left") and least is None:
                self.fall(case, question, atlas.entries(question), True)
                self.fall(case, question, atlas.entries(question)[::-1], True)

    def test_none_fall_if_some_run_shows_it(self):
        for case, atlas, question, least in answers_of_the_model():
            if question in ("stuck", "left") and least is not None:
                ranks = atlas.ranks(question)
                numbers = [(state, 99 if rank is None else rank) for state, rank in ranks.items()]
                self.fall(case, question, numbers, False)
                self.fall(case, question, [entry for entry in numbers if entry[1] != 99], False)

    def test_other_numbers_fall_too(self):
        for case, question in self.known:
            ranks = answer_to(case, question)[1]
            self.fall(case, question, [(state, number * 7) for state, number in ranks], True)
            self.fall(case, question, [(state, number * 10 ** 50 + 3) for state, number in ranks], True)
            self.fall(case, question, [(state, number + 5 * bool(number)) for state, number in ranks], True)

    def test_a_state_that_is_well_may_have_any_number_that_the_others_pass(self):
        for case, question in self.known:
            ranks = answer_to(case, question)[1]
            # All well states have the number 4 and the others fall to it.
            self.fall(case, question, [(state, number + 4) for state, number in ranks], True)
            # Now nothing falls below those that are well.
            flat = [(state, number + 4 if number else 5) for state, number in ranks]
            self.fall(case, question, flat, False)

    def test_a_state_that_is_not_well_needs_a_step_to_a_lesser_number(self):
        for case, question in self.known:
            ranks = answer_to(case, question)[1]
            far = max(number for _, number in ranks)
            for place, (state, number) in enumerate(ranks):
                if number and place % 5 == 0:
                    for other in range(number):
                        self.fall(case, question, ranks[:place] + [(state, other)] + ranks[place + 1:], False)
                    if number == far:
                        more = ranks[:place] + [(state, far + 9)] + ranks[place + 1:]
                        self.fall(case, question, more, True)

    def test_all_numbers_alike_do_not_fall(self):
        for case, question in self.known:
            states = [state for state, _ in answer_to(case, question)[1]]
            for number in (0, 1, 10):
                self.fall(case, question, [(state, number) for state in states], False)

    def test_numbers_are_from_0_on(self):
        for case, question in self.known:
            ranks = answer_to(case, question)[1]
            self.fall(case, question, [(state, number - 1) for state, number in ranks], False)
            well = next(place for place, (_, number) in enumerate(ranks) if number == 0)
            for thing in no_integers() + [-1, -10 ** 60, (0,), [0], "0", False]:
                self.fall(case, question, replaced_entry(ranks, well, (ranks[well][0], thing)), False)

    def test_true_stands_for_no_number(self):
        for case, question in self.known:
            ranks = answer_to(case, question)[1]
            for place, (state, number) in list(enumerate(ranks))[::9]:
                if number in (0, 1):
                    self.fall(case, question, replaced_entry(ranks, place, (state, bool(number))), False)

    def test_true_and_lists_within_a_state(self):
        for case, question in self.known:
            ranks = answer_to(case, question)[1]
            for place in (0, len(ranks) // 2, len(ranks) - 1):
                for path in paths_of(ranks[place]):
                    part = part_at(ranks[place], path)
                    wrong = list(part) if isinstance(part, tuple) else bool(part) if part in (0, 1) else str(part)
                    entry = replaced(ranks[place], path, wrong)
                    self.fall(case, question, replaced_entry(ranks, place, entry), False)
                    self.fall(case, question, ranks + [entry], False)

    def test_no_state_twice(self):
        for case, question in self.known:
            ranks = answer_to(case, question)[1]
            for place in (0, len(ranks) // 2, len(ranks) - 1):
                state, number = ranks[place]
                self.fall(case, question, ranks + [(state, number)], False)
                self.fall(case, question, ranks + [(state, number + 1)], False)
                self.fall(case, question, [(state, number + 1)] + ranks, False)

    def test_each_step_leads_to_a_state_of_the_list(self):
        for case, question in self.known:
            ranks = answer_to(case, question)[1]
            for place in range(0, len(ranks), len(ranks) // 9):
                self.fall(case, question, ranks[:place] + ranks[place + 1:], False)

    def test_twins_do_not_stand_for_each_other(self):
        for case, question in self.known:
            numbers = dict(answer_to(case, question)[1])
            for half in halves(numbers):
                self.fall(case, question, [(state, numbers[state]) for state in half], False)

    def test_the_first_state_is_among_them(self):
        for case, question in self.known:
            self.fall(case, question, [], False)
            ranks = answer_to(case, question)[1]
            last = [(state, number) for state, number in ranks if state[0] == len(case[1])]
            self.fall(case, question, last, False)
            rest = [entry for entry in ranks if entry[0][0] > 0 or entry[0][1] != (-1, -1)]
            self.assertEqual(len(rest), len(ranks) - 1)
            self.fall(case, question, rest, False)

    def test_a_state_that_no_run_has(self):
        for case, question in self.known:
            ranks = answer_to(case, question)[1]
            for place in range(9):
                state = replaced(ranks[-1][0], (place,), ranks[0][0][place])
                if state not in dict(ranks):
                    self.fall(case, question, ranks + [(state, 0)], False)
                    self.fall(case, question, ranks + [(state, 99)], False)

    def test_what_is_no_list_of_ranks(self):
        for case, question in ((TOLD, "stuck"), (EXAMPLE, "left")):
            ranks = answer_to(case, question)[1]
            for thing in strange() + no_integers() + [tuple(ranks), set(ranks), dict(ranks), [ranks]]:
                self.fall(case, question, thing, False)
            wrong = [0, list(ranks[0]), ranks[0] + (0,), ranks[0][:1], ranks[0][::-1], ranks[0][0]]
            for thing in strange() + no_integers() + wrong:
                self.fall(case, question, ranks + [thing], False)
                self.fall(case, question, [thing] + ranks[1:], False)

    def test_what_is_passed_stays(self):
        ranks = answer_to(TOLD, "stuck")[1]
        kept = list(ranks)
        self.fall(TOLD, "stuck", ranks, True)
        self.assertEqual(ranks, kept)

    def test_by_name(self):
        ranks = answer_to(TOLD, "stuck")[1]
        self.assertIs(ranks_fall(ranks=ranks, question="stuck", case=TOLD), True)
        self.assertIs(ranks_fall(ranks=ranks, question="stuck", case=STUCK), False)
        self.assertIs(ranks_fall(ranks=ranks, question="left", case=SHUT), False)


def replaced_entry(entries, place, entry):
    """Return a list with one entry exchanged."""
    return entries[:place] + [entry] + entries[place + 1:]


class RanksFallArguments(Refusals, unittest.TestCase):
    function = [lambda case, question: ranks_fall(case, question, None)]
    goods = [(EXAMPLE, "stuck"), (TOLD, "left")]

    def wrongs(self, good):
        return [("case", BadCase, bad_cases(good[0])), ("question", BadQuestion, bad_questions(ALL_QUESTIONS[4:]))]


if __name__ == "__main__":
    unittest.main()
