"""Points 32 and 33: houses and runs as texts, and such texts read back."""

import itertools
import random
import unittest

from cases import EXAMPLE
from model import WORDS, random_house, random_plan, random_run
from refusals import Refusals, error_of
from running import built
from test_houses import SCHEMES
from things import bad_houses, bad_plans, bad_schemes, no_integers, steps_of, strange

from lanescounted.errors import BadCase, BadHouse, BadScheme, BadText
from lanescounted.houses import house_of
from lanescounted.texts import read_house, read_run, show_house, show_plan, show_run, show_scheme

HOUSE = built("show close show open", (2, 3, 1), ((0, 1, 0), (1, 2, 0)), (2, 3), 3)
TEXT = """\
quiet paced back with steady
show close show open
counts 2 3 1
senders 3
key 0 1 0 x 2
key 1 2 0 x 3"""
LINES = TEXT.split("\n")
RUN_TEXT = "word; learn 0; hear 1; send 0 1; again 1 0; arrive 2 1; take 3; note 0; hand 2"
RUN = [("word",), ("learn", 0), ("hear", 1), ("send", 0, 1), ("again", 1, 0), ("arrive", 2, 1), ("take", 3), ("note", 0),
       ("hand", 2)]


def no_texts():
    """Return what is no text."""
    return [thing for thing in strange() + no_integers() if not isinstance(thing, str)] + [0, 1, TEXT.encode(), LINES, HOUSE]


class Shown(unittest.TestCase):
    def test_schemes(self):
        for scheme, text in (
            ((True, True, "back", "behind", True), "asks paced back behind steady"),
            ((False, True, "back", "with", True), "quiet paced back with steady"),
            ((True, False, "back", "with", True), "asks piped back with steady"),
            ((True, True, "lost", "first", True), "asks paced lost first steady"),
            ((True, True, "lost", "with", False), "asks paced lost with handed"),
            ((False, False, "lost", "behind", False), "quiet piped lost behind handed"),
        ):
            self.assertEqual(show_scheme(scheme), text)
        self.assertEqual(len({show_scheme(scheme) for scheme in SCHEMES}), 48)

    def test_plans(self):
        self.assertEqual(show_plan(("show",)), "show")
        self.assertEqual(show_plan(("show", "close", "drain", "open")), "show close drain open")
        dice = random.Random(32)
        for _ in range(100):
            plan = random_plan(dice)
            self.assertEqual(tuple(show_plan(plan).split(" ")), plan)

    def test_houses(self):
        self.assertEqual(show_house(HOUSE), TEXT)
        self.assertEqual(show_house(house_of(EXAMPLE)),
                         "quiet paced back with steady\nshow open\ncounts 1 2\nsenders 2\nkey 0 1 x 2")
        house = ((True, False, "lost", "first", False), ("show",), (4, 4), ((3, 2),) * 3, (1, 2, 3), 1)
        self.assertEqual(show_house(house), "asks piped lost first handed\nshow\ncounts 4 4\nsenders 1\n"
                                            "key 3 2 x 1\nkey 3 2 x 2\nkey 3 2 x 3")

    def test_runs(self):
        self.assertEqual(show_run(RUN), RUN_TEXT)
        self.assertEqual(show_run([]), "")
        self.assertEqual(show_run([("word",)]), "word")
        self.assertEqual(show_run([("word",)] * 3), "word; word; word")

    def test_a_run_of_more_than_two_hundred_steps_is_written_too(self):
        self.assertEqual(show_run([("take", 0)] * 403), "; ".join(["take 0"] * 403))

    def test_by_name(self):
        self.assertEqual(show_scheme(scheme=HOUSE[0]), LINES[0])
        self.assertEqual(show_plan(plan=HOUSE[1]), LINES[1])
        self.assertEqual(show_run(run=RUN), RUN_TEXT)
        self.assertEqual(read_house(text=TEXT), HOUSE)
        self.assertEqual(read_run(text=RUN_TEXT), RUN)


class ThereAndBack(unittest.TestCase):
    def test_houses(self):
        dice = random.Random(33)
        for _ in range(500):
            house = random_house(dice)
            again = read_house(show_house(house))
            self.assertEqual(again, house)
            self.assertEqual([type(part) for part in again], [tuple] * 5 + [int])
            self.assertEqual([type(part) for part in again[0]], [bool, bool, str, str, bool])

    def test_all_schemes(self):
        for scheme in SCHEMES:
            house = (scheme,) + HOUSE[1:]
            self.assertEqual(read_house(show_house(house)), house)

    def test_all_words_of_plans(self):
        for word in WORDS[1:]:
            for plan in ((word, "show"), ("show",) + (word,) * 14):
                house = (HOUSE[0], plan, (1, 2), ((0, 1),), (2,), 2)
                self.assertEqual(read_house(show_house(house)), house)

    def test_runs(self):
        dice = random.Random(34)
        for _ in range(200):
            run = random_run(dice, random_house(dice), 200)
            self.assertEqual(read_run(show_run(run)), run)


class ReadHouse(unittest.TestCase):
    def bad(self, text, line):
        with self.assertRaises(BadText) as caught:
            read_house(text)
        self.assertEqual(caught.exception.line, line, text)

    def with_line(self, line, row):
        return "\n".join(LINES[:line] + [row] + LINES[line + 1:])

    def test_what_is_no_text(self):
        for thing in no_texts():
            self.bad(thing, 0)

    def test_each_line_spoilt(self):
        rows = ["", " ", "x", "show", "key", "counts", "senders", "0", "1 2", "show show", "counts 1", "senders 2", "key 0 x 1"]
        for line, good in enumerate(LINES):
            spoilt = rows + [good + " ", " " + good, good.replace(" ", "  ", 1), good.upper(), good[1:], good + "."]
            spoilt += ["\t" + good, good.replace(" ", "\t", 1), good.replace(" ", "", 1), good + " x", "x " + good, good * 2]
            for row in spoilt:
                # What is of the form of its line may be one that fits no house, or even one that does.
                if not of_its_form(line, row):
                    self.bad(self.with_line(line, row), line)

    def test_each_line_missing(self):
        for many in range(5):
            self.bad("\n".join(LINES[:many]), many)
        self.bad("", 0)
        self.bad("\n" + TEXT, 0)
        for line in range(4):
            self.bad("\n".join(LINES[:line] + LINES[line + 1:]), line)
            self.bad("\n".join(LINES[:line] + [""] + LINES[line:]), line)
        self.assertEqual(read_house("\n".join(LINES[:5])), HOUSE[:3] + (HOUSE[3][:1], (2,), 3))

    def test_a_line_feed_at_the_end_is_one_more_line(self):
        self.bad(TEXT + "\n", 6)
        self.bad("\n".join(LINES[:5]) + "\n", 5)
        for many in range(5):
            self.bad("\n".join(LINES[:many]) + "\n", many)
        self.bad(TEXT + "\n\n", 6)
        self.bad("\n", 0)

    def test_the_first_line_that_is_not_of_its_form(self):
        for first, second in itertools.combinations(range(6), 2):
            rows = list(LINES)
            rows[first] = rows[second] = "nothing"
            self.bad("\n".join(rows), first)

    def test_schemes(self):
        for row in ("quiet paced back with", "quiet paced back with steady steady", "paced quiet back with steady",
                    "asks quiet back with steady", "quiet piped back lost steady", "quiet paced with back steady",
                    "True True back with True", "quiet paced back behind first", "Quiet paced back with steady"):
            self.bad(self.with_line(0, row), 0)

    def test_plans(self):
        for row in ("show learn", "show  open", "word", "show open ", "Show", "show,open", "show; open"):
            self.bad(self.with_line(1, row), 1)
        # These are of the form of a plan's line, but no plans; or their counts are too many.
        for row in ("open", "show show show", "show" + " open" * 15, "tell", "show show show" + " drop" * 90):
            self.bad(self.with_line(1, row), 1)
        self.bad(self.with_line(1, "show open"), 2)
        self.bad(self.with_line(1, "show" + " open" * 14), 2)

    def test_counts(self):
        for row in ("counts", "counts ", "count 2 3 1", "counts 2 3 10", "counts 2 3 a", "counts 2,3,1", "counts -2 3 1",
                    "counts 2 3 1 ", "counts  2 3 1", "counts +2 3 1", "counts 2 3 01", "Counts 2 3 1"):
            self.bad(self.with_line(2, row), 2)
        for row in ("counts 2", "counts 2 3", "counts 2 3 1 1", "counts 0 3 1", "counts 2 5 1", "counts 2 3 9",
                    "counts" + " 1" * 50):
            self.bad(self.with_line(2, row), 2)

    def test_senders(self):
        for row in ("senders", "senders ", "sender 3", "senders 3 3", "senders 33", "senders three", "senders -1", "senders  3"):
            self.bad(self.with_line(3, row), 3)
        for row in ("senders 0", "senders 4", "senders 9"):
            self.bad(self.with_line(3, row), 3)

    def test_keys(self):
        for line in (4, 5):
            for row in ("key", "key x 2", "key 0 1 0 x", "key 0 1 0 2", "key 0 1 0 X 2", "key 0 1 0 x 2 2", "key 0 1 0 x 12",
                        "key 0 1 10 x 2", "keys 0 1 0 x 2", "key 0 1 0 x x 2", "key  0 1 0 x 2", "key 0 1 0 x 2 ", "0 1 0 x 2",
                        "key x x 2", "x 0 1 0 key 2", "key 0 1 -1 x 2", "key 0 1 0 x y"):
                self.bad(self.with_line(line, row), line)
            for row in ("key 0 x 2", "key 0 1 x 2", "key 0 1 0 0 x 2", "key 2 1 0 x 2", "key 0 3 0 x 2", "key 0 1 1 x 2",
                        "key 0 1 9 x 2", "key 0 1 0 x 0", "key 0 1 0 x 4", "key 0 1 0 x 9"):
                self.bad(self.with_line(line, row), line)

    def test_the_fourth_key(self):
        key = "\nkey 0 1 0 x 2"
        self.assertEqual(len(read_house(TEXT + key)[3]), 3)
        for many in range(2, 9):
            self.bad(TEXT + key * many, 7)
        self.bad(TEXT + key * 5 + "\nkey", 11)
        self.bad(TEXT + "\nkey 9 1 0 x 2" + key * 2, 6)
        self.bad(TEXT + key + "\nkey 9 1 0 x 2", 7)

    def test_what_is_not_of_its_form_comes_ahead_of_what_fits_no_house(self):
        unfit = ["", "open", "counts 9", "senders 9", "key 9 x 9", "key 8 x 8"]
        near = ["quiet paced back with", "", "counts", "senders", "key x 2", "key x 2"]
        for first, second in itertools.product(range(1, 6), range(6)):
            if first != second:
                for row in ("nothing", near[second]):
                    rows = list(LINES)
                    rows[first], rows[second] = unfit[first], row
                    self.bad("\n".join(rows), second)

    def test_the_first_line_that_fits_no_house(self):
        unfit = ["", "open", "counts 9", "senders 9", "key 9 x 9", "key 8 x 8"]
        for many in range(1, 6):
            for places in itertools.combinations(range(1, 6), many):
                rows = [unfit[line] if line in places else row for line, row in enumerate(LINES)]
                self.bad("\n".join(rows), places[0])

    def test_texts_of_all_characters(self):
        for number in list(range(32, 127)) + [10]:
            self.assertIs(error_of(read_house, (chr(number) * 3,)), BadText)
            for line in range(6):
                self.bad(self.with_line(line, chr(number)), line)


def of_its_form(line, row):
    """Tell whether a row is of the form of this line of a house's text: a second reading."""
    words = row.split(" ")
    if line == 0:
        return row in [show_scheme(scheme) for scheme in SCHEMES]
    if line == 1:
        return set(words) <= set(WORDS)
    head = ["counts", "senders", "key", "key"][line - 2]
    digits = words[1:] if line < 4 else words[1:-2] + words[-1:]
    if words[0] != head or not digits or not set(digits) <= set("0123456789"):
        return False
    return len(digits) == 1 if line == 3 else line == 2 or len(digits) > 1 and words[-2] == "x"


class ReadRun(unittest.TestCase):
    def bad(self, text):
        with self.assertRaises(BadText) as caught:
            read_run(text)
        self.assertEqual(caught.exception.line, 0, text)

    def test_good_texts(self):
        self.assertEqual(read_run(RUN_TEXT), RUN)
        self.assertEqual(read_run(""), [])
        self.assertEqual(read_run("word"), [("word",)])
        self.assertEqual(read_run("take 9; learn 7; send 8 9; take 9"), steps_of("take 9; learn 7; send 8 9; take 9"))

    def test_what_is_no_text(self):
        for thing in no_texts():
            self.bad(thing)

    def test_what_is_no_step(self):
        for step in ("", " ", ";", "; ", "show", "word 0", "learn", "learn 0 0", "hear", "hear 12", "send 0", "send 0 0 0",
                     "take", "take 0 0", "note", "note x", "hand", "hand -1", "again 0", "arrive 0", "arrive 0 0 0", "Word", "word ",
                     " word", "learn  0", "learn 0 ", "('word',)", "learn 00", "take +1", "take\t0", "take,0", "learn 0\n"):
            self.bad(step or " ")
            self.bad("word; " + step)
            self.bad(step + "; word")
            self.bad("word; " + step + "; learn 0")

    def test_how_steps_are_separated(self):
        for text in ("word;word", "word ; word", "word;  word", "word, word", "word\nword", "word; word;", "word; word; ",
                     "; word", " word", "word ", "word;\nword", "word word"):
            self.bad(text)

    def test_two_hundred_steps_and_one_more(self):
        self.assertEqual(read_run("; ".join(["word"] * 200)), [("word",)] * 200)
        self.bad("; ".join(["word"] * 201))
        self.bad("; ".join(["arrive 0 0"] * 800))

    def test_whether_a_step_can_be_taken_is_not_looked_at(self):
        for number in range(10):
            self.assertEqual(read_run(f"take {number}; send {number} 9"), [("take", number), ("send", number, 9)])

    def test_lists_that_are_returned_are_new(self):
        read_run(RUN_TEXT).clear()
        self.assertEqual(read_run(RUN_TEXT), RUN)
        run = list(RUN)
        show_run(run)
        self.assertEqual(run, RUN)


class ShowHouseArguments(Refusals, unittest.TestCase):
    function = [show_house]
    goods = [(HOUSE,), (house_of(EXAMPLE),)]

    def wrongs(self, good):
        return [("house", BadHouse, bad_houses(good[0]))]


class ShowSchemeArguments(Refusals, unittest.TestCase):
    function = [show_scheme]
    goods = [(HOUSE[0],)]

    def wrongs(self, good):
        return [("scheme", BadScheme, bad_schemes(good[0]))]


class ShowPlanArguments(Refusals, unittest.TestCase):
    function = [show_plan]
    goods = [(HOUSE[1],)]

    def wrongs(self, good):
        return [("plan", BadCase, bad_plans(good[0]))]


class ReadHouseArguments(Refusals, unittest.TestCase):
    function = [read_house]
    goods = [(TEXT,)]

    def wrongs(self, good):
        return [("text", BadText, no_texts() + ["", "x", "word"])]


class ReadRunArguments(Refusals, unittest.TestCase):
    function = [read_run]
    goods = [(RUN_TEXT,), ("",)]

    def wrongs(self, good):
        return [("text", BadText, no_texts() + ["x", "show", TEXT])]


if __name__ == "__main__":
    unittest.main()
