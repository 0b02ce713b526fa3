"""Points 28 and 29: logs of the letters that were taken, and what they tell about the runs that have them."""

import functools
import itertools
import random
import unittest

from cases import EXAMPLE, FENCED, HANDED, IN_HAND, case_of
from model import loaded, random_case, random_run, replayed
from refusals import Refusals, error_of
from things import bad_cases, no_integers, spoiled, strange, steps_of

from lanescounted.errors import BadCase, BadLog
from lanescounted.houses import house_of
from lanescounted.logs import least_hands, log_editions, log_places, log_run, next_takes, sure_words
from lanescounted.runs import events_of, possible_steps, state_after

FUNCTIONS = (log_places, log_run, next_takes, sure_words, least_hands, log_editions)


def takes_of(case, run):
    """Return the log of a run."""
    return [(event[1], event[3]) for event in events_of(house_of(case), run) if event[0] == "take"]


def edition_of(state, notes, lane):
    """Return the edition of the letter that a reader takes in a state."""
    return state[5][lane][2] if notes == "first" else state[4][lane][state[5][lane]][2]


class Book:
    """All logs that runs of a case have, of at most so many entries, found by trying all runs by the model.

    A node is (entries, state), each entry (lane, number, edition); `steps` and `hands` have the fewest of each node.
    `ends` has for each log the nodes directly behind its last take.
    """

    def __init__(self, case, most):
        house = house_of(case)
        start = ((), replayed(house, []).state())
        self.steps, self.hands, self.ends = {start: 0}, {start: 0}, {(): [start]}
        moves, waiting = {}, [start]
        while waiting:
            node = waiting.pop(0)
            moves[node] = self.moves(house, node) if len(node[0]) <= most else []
            for _, behind in moves[node]:
                if len(behind[0]) > len(node[0]):
                    self.ends.setdefault(log_of(behind), [])
                    self.ends[log_of(behind)] += [] if behind in self.ends[log_of(behind)] else [behind]
                if behind not in self.steps:
                    self.steps[behind] = self.steps[node] + 1
                    waiting.append(behind)
        self.count_hands(moves)

    def moves(self, house, node):
        """Return (step, node behind it) for each step."""
        entries, state = node
        found = []
        for step in loaded(house, state).steps():
            model = loaded(house, state)
            events, _ = model.do(step)
            more = ()
            if step[0] == "take":
                more = ((step[1], events[0][3], edition_of(state, house[0][3], step[1])),)
            found.append((step, (entries + more, model.state())))
        return found

    def count_hands(self, moves):
        """Find the fewest hands of each node."""
        changed = True
        while changed:
            changed = False
            for node, found in moves.items():
                for step, behind in found:
                    hands = self.hands[node] + (step[0] == "hand")
                    if hands < self.hands.get(behind, 999):
                        self.hands[behind], changed = hands, True


def log_of(node):
    """Return the log of a node."""
    return tuple((lane, number) for lane, number, _ in node[0])


# Known cases, with how many entries the logs have at most that are tried.
KNOWN = [
    (EXAMPLE, 3), (FENCED, 2), (HANDED, 3), (IN_HAND, 3), (case_of("show copy open", notes="behind"), 2),
    (case_of("show open", paced=False), 3),
    (case_of("show copy open show open", (1, 2, 1), (0, 1, 0), notes="behind"), 2),
]


@functools.cache
def books():
    """Return (case, most, book) of some known cases, and of some random ones."""
    dice = random.Random(28)
    found = list(KNOWN)
    while len(found) < 15:
        case = random_case(dice, 3)
        if max(case[2]) <= 2:
            found.append((case, 2))
    return [(case, most, Book(case, most)) for case, most in found]


def all_logs(case, most):
    """Return all logs of a case of at most so many entries."""
    entries = list(itertools.product(range(max(case[2])), (0, 1)))
    return [log for many in range(most + 1) for log in itertools.product(entries, repeat=many)]


class AgainstTryingAllRuns(unittest.TestCase):
    def each(self):
        """Return (case, log, book, nodes behind the last take) for all logs, those that no run has among them."""
        return [
            (case, log, book, book.ends.get(log, []))
            for case, most, book in books() for log in all_logs(case, most)
        ]

    def test_there_are_logs_that_runs_have_and_others(self):
        found = [bool(ends) for _, log, _, ends in self.each() if log]
        self.assertGreater(found.count(True), 60)
        self.assertGreater(found.count(False), 60)

    def test_log_places(self):
        for case, log, _, ends in self.each():
            places = sorted({state[0] for _, state in ends}) if log else list(range(len(case[1]) + 1))
            self.assertEqual(log_places(case, list(log)), places, (case, log))

    def test_sure_words(self):
        for case, log, _, ends in self.each():
            least = min((state[0] for _, state in ends), default=None)
            self.assertEqual(sure_words(case, list(log)), least, (case, log))

    def test_log_run(self):
        for case, log, book, ends in self.each():
            run = log_run(case, list(log))
            if not ends:
                self.assertIsNone(run)
                continue
            self.assertEqual(len(run), min(book.steps[node] for node in ends), (case, log))
            self.assertEqual(takes_of(case, run), list(log))
            self.assertEqual(run[-1][0] if run else "take", "take")

    def test_next_takes(self):
        for case, log, book, _ in self.each():
            following = sorted({longer[-1] for longer in book.ends if longer and longer[:-1] == log})
            self.assertEqual(next_takes(case, list(log)), following, (case, log))

    def test_least_hands(self):
        for case, log, book, ends in self.each():
            hands = min((book.hands[node] for node in ends), default=None)
            self.assertEqual(least_hands(case, list(log)), hands, (case, log))

    def test_log_editions(self):
        for case, log, _, ends in self.each():
            editions = None
            if ends:
                editions = [tuple(sorted({entries[at][2] for entries, _ in ends})) for at in range(len(log))]
            self.assertEqual(log_editions(case, list(log)), editions, (case, log))


class Examples(unittest.TestCase):
    def test_the_empty_log(self):
        for case in (EXAMPLE, FENCED, case_of("show"), case_of("show agree")):
            self.assertEqual(log_places(case, []), list(range(len(case[1]) + 1)))
            self.assertEqual(log_run(case, []), [])
            self.assertEqual(sure_words(case, []), 0)
            self.assertEqual(least_hands(case, []), 0)
            self.assertEqual(log_editions(case, []), [])
        self.assertEqual(next_takes(EXAMPLE, []), [(0, 0), (0, 1), (1, 0), (1, 1)])
        # What is sent behind close has edition 1, and behind drain, ahead of open, nothing is taken from lane 1.
        self.assertEqual(next_takes(FENCED, []), [(0, 0), (1, 0)])
        self.assertEqual(next_takes(case_of("show", (1, 1), (0, 0)), []), [(0, 0)])

    def test_the_wrong_order(self):
        log = [(1, 1), (0, 0)]
        self.assertEqual(len(log_run(EXAMPLE, log)), 10)
        self.assertEqual(log_places(EXAMPLE, log), [2])
        self.assertEqual(log_editions(EXAMPLE, log), [(1,), (0,)])
        self.assertEqual(next_takes(EXAMPLE, log), [])
        for function in FUNCTIONS:
            self.assertEqual(function(FENCED, log), [] if function in (log_places, next_takes) else None)

    def test_places(self):
        self.assertEqual(log_places(EXAMPLE, [(0, 0)]), [0, 1, 2])
        self.assertEqual(log_places(EXAMPLE, [(0, 0), (1, 1)]), [2])
        self.assertEqual(log_places(EXAMPLE, [(1, 0)]), [2])
        self.assertEqual(sure_words(EXAMPLE, [(0, 0)]), 0)
        self.assertEqual(sure_words(EXAMPLE, [(1, 0)]), 2)
        self.assertEqual(sure_words(FENCED, [(1, 0)]), 4)

    def test_hands(self):
        for many in range(1, 11):
            self.assertEqual(least_hands(HANDED, [(0, 0)] * many), many - 1)
            self.assertEqual(len(log_run(HANDED, [(0, 0)] * many)), 2 * many + 2)
        self.assertEqual(least_hands(HANDED, [(0, 0), (0, 1), (0, 0), (0, 1)]), 1)
        self.assertEqual(least_hands(HANDED, [(0, 0), (0, 1), (0, 1)]), 1)
        self.assertEqual(least_hands(HANDED, [(0, 1)]), None)
        # By "first" a letter that was handed over is lost, and the next one is taken.
        self.assertEqual(least_hands(IN_HAND, [(0, 1)]), 1)
        self.assertEqual(least_hands(IN_HAND, [(0, 0), (0, 0)]), None)

    def test_fewest_hands_may_need_more_steps(self):
        # The letter can be taken again behind a hand, or behind two copies, there and back.
        case = case_of("show copy show copy", (1, 2, 1), (0, 1, 0), notes="behind", steady=False)
        self.assertEqual(log_run(case, [(0, 0), (0, 0)])[-2:], [("hand", 0), ("take", 0)])
        self.assertEqual(least_hands(case, [(0, 0), (0, 0)]), 0)
        self.assertEqual(least_hands(case, [(0, 0), (0, 0), (0, 0)]), 1)
        # Both can come behind the two copies, too.
        self.assertEqual(log_editions(case, [(0, 0), (0, 0)]), [(0, 2), (0, 2)])

    def test_editions(self):
        self.assertEqual(log_editions(EXAMPLE, [(0, 0), (1, 1)]), [(0,), (1,)])
        case = case_of("show tell open", (1, 2), (0, 0))
        self.assertEqual(log_editions(case, [(0, 0)]), [(0, 1)])
        self.assertEqual(log_editions(case, [(0, 0), (0, 1)]), [(0, 1), (0, 1)])
        case = case_of("show close open", (2, 1), (1, 0))
        self.assertEqual(log_editions(case, [(1, 0), (0, 1)]), [(0,), (1,)])

    def test_editions_are_those_of_runs_with_the_whole_log(self):
        # In lane 0 the letter has the edition 0 or 2; only with 0 it can be copied to lane 1 and be taken there again.
        case = case_of("show copy open show open", (1, 2, 1), (0, 1, 0), notes="behind")
        self.assertEqual(log_editions(case, [(0, 0)]), [(0, 2)])
        self.assertEqual(log_editions(case, [(0, 0), (1, 0)]), [(0,), (1,)])
        self.assertEqual(log_editions(case, [(1, 0)]), [(1,)])
        case = ((False, True, "back", "with", True), ("show", "tell", "show", "open"), (1, 1, 2), (0, 0, 1))
        self.assertEqual(log_editions(case, [(0, 0)]), [(0, 1)])
        self.assertEqual(log_editions(case, [(0, 0), (0, 1)]), [(0, 1), (0, 1)])
        self.assertEqual(log_editions(case, [(0, 0), (1, 1)]), [(0, 1), (2,)])

    def test_twenty_entries_and_one_more(self):
        log = [(0, 0)] * 20
        self.assertEqual(len(log_run(HANDED, log)), 42)
        self.assertEqual(least_hands(HANDED, log), 19)
        self.assertEqual(log_places(HANDED, log), [0, 1])
        self.assertEqual(log_editions(HANDED, log), [(0,)] * 20)
        self.assertEqual(next_takes(HANDED, log), [(0, 0), (0, 1)])
        for function in FUNCTIONS:
            self.assertIs(error_of(function, (HANDED, log + [(0, 0)])), BadLog)

    def test_what_is_passed_stays(self):
        for function in FUNCTIONS:
            log = [(0, 0), (1, 1)]
            function(EXAMPLE, log)
            self.assertEqual(log, [(0, 0), (1, 1)])


class LogsOfRuns(unittest.TestCase):
    def some(self, dice, most):
        """Return some case, the log of a run of it, and the run up to its last take."""
        while True:
            case = random_case(dice, 6)
            run = random_run(dice, house_of(case), most)
            while run and run[-1][0] != "take":
                run.pop()
            log = takes_of(case, run)
            if log and len(log) <= 20:
                return case, log, run

    def test_a_log_of_a_run_is_had_by_it(self):
        dice = random.Random(29)
        lengths = []
        for _ in range(150):
            case, log, run = self.some(dice, 60)
            place = state_after(house_of(case), run)[0]
            self.assertIn(place, log_places(case, log))
            self.assertLessEqual(sure_words(case, log), place)
            self.assertLessEqual(least_hands(case, log), len([step for step in run if step[0] == "hand"]))
            shortest = log_run(case, log)
            self.assertLessEqual(len(shortest), len(run))
            self.assertEqual(takes_of(case, shortest), log)
            editions = log_editions(case, log)
            for found in (run, shortest):
                at = 0
                for number, step in enumerate(found):
                    if step[0] == "take":
                        state = state_after(house_of(case), found[:number])
                        self.assertIn(edition_of(state, case[0][3], step[1]), editions[at])
                        at += 1
            lengths.append(len(log))
        self.assertGreater(max(lengths), 4)

    def test_the_functions_against_each_other(self):
        dice = random.Random(30)
        for _ in range(60):
            case, log, _ = self.some(dice, 30)
            log = log[:dice.randint(0, len(log))]
            entries = itertools.product(range(max(case[2])), (0, 1))
            following = [entry for entry in entries if log_run(case, log + [entry]) is not None]
            self.assertEqual(next_takes(case, log), following)
            self.assertEqual(sure_words(case, log), min(log_places(case, log)))
            for entry in following:
                self.assertGreaterEqual(sure_words(case, log + [entry]), sure_words(case, log))
                self.assertGreaterEqual(least_hands(case, log + [entry]), least_hands(case, log))
                longer = log_editions(case, log + [entry])
                for editions, more in zip(longer, log_editions(case, log)):
                    self.assertLessEqual(set(editions), set(more))

    def test_the_kinds_of_values(self):
        for case, log in ((EXAMPLE, [(0, 0)]), (HANDED, [(0, 0), (0, 0)]), (EXAMPLE, [])):
            self.assertEqual([type(function(case, log)) for function in FUNCTIONS], [list, list, list, int, int, list])
            for step in log_run(case, log):
                self.assertIs(type(step), tuple)
            for entry in next_takes(case, log) + log_editions(case, log):
                self.assertIs(type(entry), tuple)

    def test_a_run_of_a_log_ends_with_its_last_take(self):
        run = log_run(EXAMPLE, [(0, 0)])
        self.assertEqual(run[-1], ("take", 0))
        texts = ("learn 0; send 0 0; arrive 0 0; take 0", "learn 1; send 1 0; arrive 0 0; take 0")
        self.assertIn(run, [steps_of(text) for text in texts])
        self.assertIn(("send", run[0][1], 0), possible_steps(house_of(EXAMPLE), run))


def bad_logs():
    """Return what is no log of a case with two lanes."""
    entries = strange() + no_integers() + spoiled((0, 1)) + [
        (2, 0), (-1, 0), (0, 2), (0, -1), (True, 0), (0, False), (0, True), (False, 1), (0,), (0, 0, 0), [0, 0], "00",
        (0, "0"),
    ]
    bad = [entry for entry in entries if not is_entry(entry)]
    lists = [[entry] for entry in bad] + [[(0, 0), entry] for entry in bad[::3]] + [[(0, 0)] * 21, [(0, 0)] * 500]
    others = [((0, 0),), (), (0, 0), {(0, 0): 1}, {(0, 0)}, "", [(0, 0), [(0, 0)]]]
    return [thing for thing in strange() + no_integers() if type(thing) is not list or thing] + lists + others


def is_entry(thing):
    """Tell whether an object is an entry of a log of a case with two lanes."""
    return type(thing) is tuple and [type(part) for part in thing] == [int, int] and set(thing) <= {0, 1}


class LogArguments(Refusals):
    goods = [(EXAMPLE, []), (EXAMPLE, [(0, 0), (1, 1)]), (HANDED[:2] + ((2, 1), (1, 0)), [(1, 0), (1, 0)])]

    def wrongs(self, good):
        return [("case", BadCase, bad_cases(good[0])), ("log", BadLog, bad_logs())]


class LogPlacesArguments(LogArguments, unittest.TestCase):
    function = [log_places]


class LogRunArguments(LogArguments, unittest.TestCase):
    function = [log_run]


class NextTakesArguments(LogArguments, unittest.TestCase):
    function = [next_takes]


class SureWordsArguments(LogArguments, unittest.TestCase):
    function = [sure_words]


class LeastHandsArguments(LogArguments, unittest.TestCase):
    function = [least_hands]


class LogEditionsArguments(LogArguments, unittest.TestCase):
    function = [log_editions]


if __name__ == "__main__":
    unittest.main()
