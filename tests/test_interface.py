"""The interface: where each function, class and method is defined, what its arguments are called, what it returns."""

import importlib
import inspect
import unittest

from cases import EXAMPLE
from things import steps_of

from lanescounted.desk import Desk
from lanescounted.houses import house_of
from lanescounted.live import House

SCHEME, PLAN, COUNTS, COURSE = EXAMPLE
HOUSE = house_of(EXAMPLE)
RUN = steps_of("learn 0; send 0 0; arrive 0 0; take 0; word")
TEXT = "quiet paced back with steady\nshow open\ncounts 1 2\nsenders 2\nkey 0 1 x 2"
CASE = {"case": EXAMPLE}
LOG = {**CASE, "log": [(0, 0)]}
SPOTS = ((1, "drain"), (2, "agree"))
CALM = (SCHEME, ("show", "close", "drain", "open"), COUNTS, COURSE)
# For each function of the interface, by files, its arguments in their order, and the kinds of values that it returns.
FUNCTIONS = {
    "tables": {
        "lane_of": ({"kind": "rest", "count": 3, "mark": 7, "size": 9}, int),
        "course_shares": ({"kind": "rest", "counts": (1, 2), "size": 9}, list),
        "count_moved": ({"kind": "rest", "before": 2, "after": 3, "size": 9}, int),
        "first_moved": ({"kind": "rest", "before": 2, "after": 3, "size": 9}, int),
        "all_courses": ({"counts": (1, 2)}, list),
        "small_courses": ({"counts": (1, 2)}, list),
    },
    "houses": {
        "is_house": ({"thing": HOUSE}, bool), "is_case": ({"thing": EXAMPLE}, bool), "house_of": (CASE, tuple),
    },
    "runs": {
        "possible_steps": ({"house": HOUSE, "run": RUN}, list), "events_of": ({"house": HOUSE, "run": RUN}, list),
        "state_after": ({"house": HOUSE, "run": RUN}, tuple),
    },
    "questions": {
        "run_shows": ({"house": HOUSE, "question": "order", "run": RUN}, bool),
        "project": ({"house": HOUSE, "run": RUN, "key": 0, "first": 0, "second": 1}, list),
        "embed": ({"house": HOUSE, "key": 0, "run": RUN}, list),
        "renamed_run": ({"house": HOUSE, "lanes": (0, 1), "senders": (1, 0), "run": RUN}, list),
    },
    "answers": {
        "answer_to": ({**CASE, "question": "order"}, tuple),
        "answer_holds": ({**CASE, "question": "order", "answer": None}, bool),
        "states_close": ({**CASE, "question": "late", "states": []}, bool),
        "ranks_fall": ({**CASE, "question": "left", "ranks": []}, bool),
        "answer_for": ({"house": HOUSE, "question": "order"}, tuple),
    },
    "plans": {
        "shown_by": ({"scheme": SCHEME, "plan": PLAN, "counts": COUNTS}, list),
        "harmed": (
            {"scheme": SCHEME, "plan": PLAN, "kind": "rest", "counts": COUNTS, "size": 9, "question": "order"}, int,
        ),
        "left_lanes": ({"plan": PLAN, "counts": COUNTS}, list), "shut_lanes": ({"plan": PLAN, "counts": COUNTS}, list),
        "is_fenced": ({"plan": PLAN}, bool),
    },
    "waits": {
        "with_waits": ({"plan": PLAN, "lot": SPOTS}, tuple),
        "least_waits": ({**CASE, "questions": ["order"], "spots": list(SPOTS)}, list),
        "runs_against": ({"case": CALM, "questions": ["order"], "lot": SPOTS}, list),
        "kept_run": ({**CASE, "run": RUN, "lot": SPOTS}, list),
    },
    "schemes": {
        "scheme_within": ({"scheme": SCHEME, "other": SCHEME}, bool),
        "carried_run": ({**CASE, "scheme": SCHEME, "run": RUN}, list),
    },
    "logs": {
        "log_places": (LOG, list), "log_run": (LOG, list), "next_takes": (LOG, list), "sure_words": (LOG, int),
        "least_hands": (LOG, int), "log_editions": (LOG, list),
    },
    "texts": {
        "show_scheme": ({"scheme": SCHEME}, str), "show_plan": ({"plan": PLAN}, str), "show_house": ({"house": HOUSE}, str),
        "show_run": ({"run": RUN}, str), "read_house": ({"text": TEXT}, tuple), "read_run": ({"text": "word; take 0"}, list),
    },
}
# For each method its arguments in their order, and the kind of values that it returns.
METHODS = {
    "take_step": ({"step": ("learn", 0)}, list), "run": ({}, list), "steps": ({}, list), "events": ({}, list),
    "settle": ({}, list), "state": ({}, tuple), "try_all": ({"steps": RUN}, type(None)), "add_sender": ({}, int),
    "undo": ({}, type(None)), "shows": ({"question": "order"}, bool), "copy": ({}, House),
}


def each_function():
    """Return (file, name, function, arguments, kind of values) for each function of the interface."""
    return [
        (file, name, getattr(importlib.import_module("lanescounted." + file), name), arguments, kind)
        for file, functions in FUNCTIONS.items() for name, (arguments, kind) in functions.items()
    ]


class Functions(unittest.TestCase):
    def test_each_is_defined_in_its_file(self):
        self.assertEqual(len(each_function()), 44)
        for file, name, function, _, _ in each_function():
            self.assertTrue(inspect.isfunction(function))
            self.assertEqual((function.__module__, function.__name__), ("lanescounted." + file, name))

    def test_each_has_just_these_arguments(self):
        for _, name, function, arguments, _ in each_function():
            self.assertEqual(list(inspect.signature(function).parameters), list(arguments), name)

    def test_by_position_and_by_name(self):
        for _, name, function, arguments, kind in each_function():
            value = function(**arguments)
            self.assertIs(type(value), kind, name)
            self.assertEqual(function(*arguments.values()), value, name)
            self.assertEqual(function(**dict(reversed(list(arguments.items())))), value, name)

    def test_what_is_passed_stays(self):
        for _, name, function, arguments, _ in each_function():
            before = repr(arguments)
            function(**arguments)
            self.assertEqual(repr(arguments), before, name)


class Classes(unittest.TestCase):
    def test_each_method_is_defined_in_the_class_itself(self):
        self.assertEqual((House.__module__, Desk.__module__), ("lanescounted.live", "lanescounted.desk"))
        for name, (arguments, _) in METHODS.items():
            function = vars(House)[name]
            self.assertTrue(inspect.isfunction(function), name)
            self.assertEqual(list(inspect.signature(function).parameters)[1:], list(arguments), name)
        for name in ("__len__", "__getitem__", "__eq__", "words"):
            self.assertIn(name, vars(House))
        self.assertIsInstance(vars(House)["words"], property)
        self.assertEqual(list(inspect.signature(vars(Desk)["say"]).parameters)[1:], ["row"])
        self.assertEqual(list(inspect.signature(House).parameters), ["house"])
        self.assertEqual(list(inspect.signature(Desk).parameters), [])

    def test_by_position_and_by_name(self):
        for name, (arguments, kind) in METHODS.items():
            one, other = House(house=HOUSE), House(HOUSE)
            for live in (one, other):
                live.take_step(("word",))
                live.undo()
                live.take_step(("learn", 1))
            value = getattr(one, name)(**arguments)
            self.assertIs(type(value), kind, name)
            self.assertEqual(getattr(other, name)(*arguments.values()), value, name)
            self.assertEqual(one, other)

    def test_len_lanes_and_words(self):
        live = House(HOUSE)
        self.assertEqual((len(live), live[0], live.words), (0, (), 0))
        self.assertEqual([type(thing) for thing in (len(live), live[0], live.words)], [int, tuple, int])

    def test_the_desk(self):
        desk = Desk()
        self.assertEqual(desk.say("show"), desk.say(row="show"))
        self.assertIs(type(desk.say("settle")), str)


class Equal(unittest.TestCase):
    def test_equal_calls_return_equal_results(self):
        for _, name, function, arguments, _ in each_function():
            first = function(**arguments)
            second = function(**arguments)
            self.assertEqual(first, second, name)
            if isinstance(first, list):
                self.assertIsNot(first, second, name)


if __name__ == "__main__":
    unittest.main()
