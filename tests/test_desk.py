"""Points 34 and 35: the desk."""

import random
import unittest

from cases import EXAMPLE
from model import random_house
from running import built
from things import ALL_QUESTIONS, no_integers, strange

from lanescounted.answers import answer_for, answer_to
from lanescounted.desk import Desk
from lanescounted.errors import BadCommand, BadHouse, BadKey, BadLane, BadQuestion, BadStep, BadText, NothingToUndo
from lanescounted.houses import house_of
from lanescounted.live import House
from lanescounted.plans import left_lanes, shown_by, shut_lanes
from lanescounted.tables import small_courses
from lanescounted.texts import show_house, show_run

FIRST = "quiet paced back with steady / show open / counts 1 2 / senders 2 / key 0 1 x 2"
WIDE = "asks piped lost first handed / show close drop / counts 3 2 / senders 3 / key 2 1 x 3 / key 0 0 x 2"
RUN = ("learn 0", "send 0 0", "word", "word", "learn 1", "arrive 0 0", "send 1 0", "arrive 0 1", "take 1", "take 0")
ROWS = ("show", "left", "shut", "case 0", "lane 0", "lane 1")


def told(desk):
    """Return what a desk tells, and what its house would do from here on."""
    return [desk.say(row) for row in ROWS], desk.live.copy()


class Tests(unittest.TestCase):
    def stays(self, desk, row, error):
        """Test that a row raises an error and changes nothing; return the error."""
        before = told(desk)
        with self.assertRaises(error) as caught:
            desk.say(row)
        self.assertIs(type(caught.exception), error)
        self.assertEqual(told(desk), before)
        return caught.exception

    def says(self, desk, row, expected):
        self.assertEqual(desk.say(row), expected, row)


class Rows(Tests):
    def test_at_first(self):
        desk = Desk()
        self.assertEqual(desk.live, House(house_of(EXAMPLE)))
        self.says(desk, "show", FIRST)
        self.says(desk, "lane 0", "empty")
        self.says(desk, "settle", "steps 0")

    def test_do(self):
        desk = Desk()
        for step in RUN[:8]:
            self.says(desk, "do " + step, "nothing")
        self.says(desk, "lane 0", "0:0")
        self.says(desk, "lane 1", "0:1")
        self.says(desk, "do take 1", "take 1 0 1")
        self.says(desk, "do take 0", "take 0 0 0")
        self.says(desk, "lane 0", "empty")

    def test_several_events_of_one_step(self):
        desk = Desk()
        desk.say("house " + FIRST.replace("back", "lost").replace("open", "close"))
        for step in ("learn 0", "send 0 0", "word", "word"):
            self.says(desk, "do " + step, "nothing")
        self.says(desk, "do arrive 0 0", "refuse 0 0; lost 0 0")
        desk.say("house " + FIRST.replace("open", "drain"))
        for step in ("learn 0", "send 0 0", "word", "word"):
            self.says(desk, "do " + step, "nothing")
        self.says(desk, "do arrive 0 0", "late 0 0")
        desk.say("house quiet piped back with steady / show drop / counts 2 1 / senders 1 / key 1 0 x 2 / key 1 0 x 1")
        for step in ("learn 0", "send 0 1", "send 0 0", "send 0 0", "arrive 1 0", "arrive 0 0", "arrive 0 1", "word"):
            self.says(desk, "do " + step, "nothing")
        self.says(desk, "lane 1", "1:0 0:0 0:1")
        self.says(desk, "do word", "lost 0 0; lost 0 1; lost 1 0")

    def test_undo(self):
        desk = Desk()
        desk.say("do learn 0")
        desk.say("do send 0 0")
        self.says(desk, "undo", "ok")
        self.says(desk, "do word", "nothing")
        self.assertEqual(desk.live.run(), [("learn", 0), ("word",)])
        self.says(desk, "undo", "ok")
        self.says(desk, "undo", "ok")
        self.stays(desk, "undo", NothingToUndo)

    def test_settle(self):
        desk = Desk()
        for step in RUN[:3]:
            desk.say("do " + step)
        self.says(desk, "settle", "steps 2")
        self.says(desk, "settle", "steps 0")
        self.says(desk, "undo", "ok")
        self.says(desk, "lane 0", "0:0")
        self.says(desk, "settle", "steps 1")

    def test_house(self):
        desk = Desk()
        desk.say("do learn 0")
        self.says(desk, "house " + WIDE, "ok")
        self.says(desk, "show", WIDE)
        # Nothing is left of what was done to the other house.
        self.stays(desk, "undo", NothingToUndo)
        self.says(desk, "house " + FIRST, "ok")
        self.assertEqual(desk.live, House(house_of(EXAMPLE)))

    def test_show_tells_the_house_as_it_was_at_first(self):
        desk = Desk()
        for step in RUN:
            desk.say("do " + step)
            self.says(desk, "show", FIRST)

    def test_ask(self):
        desk = Desk()
        self.says(desk, "ask order 0", "run 9")
        for question in ALL_QUESTIONS[1:]:
            self.says(desk, f"ask {question} 0", f"never {len(answer_to(EXAMPLE, question)[1])}")
        self.says(desk, "ask late 0", "never 165")
        desk.say("do learn 0")
        self.says(desk, "ask order 0", "run 9")
        desk.say("house " + WIDE)
        self.says(desk, "ask lost 0", "run 5")
        self.says(desk, "ask order 1", f"never {len(answer_to(key_case(WIDE, 1), 'order')[1])}")

    def test_who(self):
        desk = Desk()
        self.says(desk, "who order", "key 0 9")
        for question in ALL_QUESTIONS[1:]:
            self.says(desk, "who " + question, "nobody")
        desk.say("house quiet paced back with steady / show open / counts 2 2 / senders 3 / key 0 0 x 2 / key 0 1 x 3")
        self.says(desk, "who order", "key 1 9")

    def test_left_and_shut(self):
        desk = Desk()
        self.says(desk, "left", "none")
        self.says(desk, "shut", "none")
        desk.say("house " + FIRST.replace("counts 1 2", "counts 4 2").replace("open", "close"))
        self.says(desk, "left", "2 3")
        self.says(desk, "shut", "none")
        desk.say("house " + FIRST.replace("counts 1 2", "counts 1 4").replace("open", "close"))
        self.says(desk, "left", "none")
        self.says(desk, "shut", "1 2 3")
        desk.say("do word")
        self.says(desk, "shut", "1 2 3")

    def test_case(self):
        desk = Desk()
        self.says(desk, "case 0", "order")
        desk.say("house " + WIDE)
        self.says(desk, "case 1", "lost left")
        desk.say("house " + FIRST.replace("show open", "show close drain open"))
        self.says(desk, "case 0", "none")
        desk.say("house " + FIRST.replace("show open", "show drain agree copy open").replace("with", "behind"))
        self.says(desk, "case 0", "order twice late stuck")

    def test_each_answer_is_a_text(self):
        desk = Desk()
        for row in (*ROWS, "house " + WIDE, "do word", "settle", "undo", "who lost"):
            self.assertIs(type(desk.say(row)), str)

    def test_two_desks(self):
        one, other = Desk(), Desk()
        one.say("do learn 0")
        one.say("house " + WIDE)
        self.says(other, "show", FIRST)
        self.stays(other, "undo", NothingToUndo)

    def test_by_name(self):
        self.assertEqual(Desk().say(row="show"), FIRST)

    def test_random_houses(self):
        dice = random.Random(34)
        for _ in range(60):
            house = random_house(dice)
            desk, live = Desk(), House(house)
            text = show_house(house).replace("\n", " / ")
            self.says(desk, "house " + text, "ok")
            self.says(desk, "show", text)
            plan, counts = house[1:3]
            self.says(desk, "left", " ".join(map(str, left_lanes(plan, counts))) or "none")
            self.says(desk, "shut", " ".join(map(str, shut_lanes(plan, counts))) or "none")
            for _ in range(20):
                if not live.steps():
                    break
                step = dice.choice(live.steps())
                events = live.take_step(step)
                self.says(desk, "do " + show_run([step]), show_run(events) or "nothing")
                for lane in range(max(counts)):
                    self.says(desk, f"lane {lane}", " ".join(f"{key}:{number}" for key, number in live[lane]) or "empty")
            self.says(desk, "settle", f"steps {len(live.settle())}")
            self.assertEqual(desk.live, live)
            self.assertEqual(desk.say("show"), text)

    def test_answers_for_random_houses(self):
        dice = random.Random(35)
        for _ in range(12):
            house = random_house(dice, least=2)
            house = (house[0], ("show", "close", "open")[:dice.randint(1, 3)], (2, 2), ((0, 1), (0, 0)), (2, 3), 2)
            desk = Desk()
            desk.say("house " + show_house(house).replace("\n", " / "))
            shown = dict(shown_by(house[0], house[1], house[2]))
            for key, course in enumerate(house[3]):
                self.assertIn(course, small_courses(house[2]))
                self.says(desk, f"case {key}", " ".join(shown[course]) or "none")
                for question in ALL_QUESTIONS:
                    word, entries = answer_to(house[:3] + (course,), question)
                    self.says(desk, f"ask {question} {key}", f"{word} {len(entries)}")
            for question in ALL_QUESTIONS:
                found = answer_for(house, question)
                self.says(desk, "who " + question, "nobody" if found is None else f"key {found[0]} {len(found[1])}")


def key_case(text, key):
    """Return the case of a key of a house that a desk's text writes."""
    desk = Desk()
    desk.say("house " + text)
    house = desk.live.first
    return house[:3] + (house[3][key],)


class Errors(Tests):
    def test_what_is_no_row(self):
        desk = Desk()
        desk.say("do learn 0")
        for thing in strange() + no_integers() + [0, 1, b"show", ["show"], ("show",)]:
            self.stays(desk, thing, BadCommand)

    def test_rows_of_no_form(self):
        desk = Desk()
        desk.say("do learn 0")
        for row in (
            "", " ", "x", "show ", " show", "show 0", "Show", "shows", "undo ", "undo 1", "settle 1", "settle ", "left 0", "left ",
            "shut 0", "house", "houses x", "House " + FIRST, "do", "do ", "do show", "do word ", "do  word", "do word 0", "do learn",
            "do learn 12", "do learn x", "do send 0", "do send 0 0 0", "do take -1", "do word; word", "do word\n", "do\nword",
            "lane", "lane ", "lane x", "lane 00", "lane 10", "lane 0 ", "lane  0", "lane 0 0", "lane -1", "lane\n0", "lane 0\n",
            "ask", "ask order", "ask order ", "ask  0", "ask order  0", "ask order x", "ask order 00", "ask order 0 0", "ask 0",
            "ask order 0 ", "ask order\n 0", "ask or\nder 0", "ask order 0\n", "who", "who ", "who  ", "who order 0", "who order ",
            "who  order", "who order\n", "who\norder", "case", "case ", "case order", "case 00", "case 0 0", "case 0\n", "show\n",
            "\nshow", "undo\nundo", "settle\n", "left\n", "shut\n", "try word", "copy", "len",
        ):
            self.stays(desk, row, BadCommand)

    def test_bad_texts(self):
        desk = Desk()
        desk.say("do learn 0")
        lines = FIRST.split(" / ")
        for number in range(5):
            row = "house " + " / ".join(lines[:number] + ["x"] + lines[number + 1:])
            self.assertEqual(self.stays(desk, row, BadText).line, number)
            self.assertEqual(self.stays(desk, "house " + " / ".join(lines[:number]), BadText).line, number)
        for row, line in (
            ("house ", 0), ("house  " + FIRST, 0), ("house x", 0), ("house /", 0), ("house  / ", 0), ("house " + FIRST + " / ", 5),
            ("house " + FIRST + " ", 4), ("house " + FIRST.replace(" / ", "/"), 0), ("house " + FIRST.replace(" / ", " /  "), 1),
            ("house " + FIRST.replace("show open", "open"), 1), ("house " + FIRST.replace("1 2", "1 5"), 2),
            ("house " + FIRST.replace("senders 2", "senders 4"), 3), ("house " + FIRST.replace("x 2", "x 4"), 4),
            ("house " + FIRST + " / key 0 1 x 2" * 3, 7),
        ):
            self.assertEqual(self.stays(desk, row, BadText).line, line, row)

    def test_line_marks_are_looked_for_from_left_to_right(self):
        # The blank behind the first mark is used up, so what follows is no second one.
        self.assertEqual(self.stays(Desk(), "house " + FIRST.replace(" / ", " / / ", 1), BadText).line, 1)

    def test_bad_steps(self):
        desk = Desk()
        desk.say("do learn 0")
        for step in ("learn 0", "hear 0", "send 1 0", "send 0 1", "arrive 0 0", "again 0 0", "take 0", "note 0", "hand 0", "learn 9",
                     "take 9", "send 9 9"):
            self.assertEqual(self.stays(desk, "do " + step, BadStep).place, 0)
        desk.say("do word")
        desk.say("do word")
        self.assertEqual(self.stays(desk, "do word", BadStep).place, 0)

    def test_bad_lanes(self):
        desk = Desk()
        for lane in range(2, 10):
            self.stays(desk, f"lane {lane}", BadLane)

    def test_bad_questions_come_ahead_of_bad_keys_and_houses(self):
        desk = Desk()
        for question in ("x", "Order", "order,", "0", "orders", "late;", "left/", "never", "run", "%", "question"):
            for key in range(10):
                self.stays(desk, f"ask {question} {key}", BadQuestion)
            self.stays(desk, "who " + question, BadQuestion)
        desk.say("house " + FIRST.replace("senders 2", "senders 1"))
        self.stays(desk, "who x", BadQuestion)
        self.stays(desk, "who order", BadHouse)

    def test_bad_keys(self):
        desk = Desk()
        for key in range(1, 10):
            self.stays(desk, f"case {key}", BadKey)
            for question in ALL_QUESTIONS:
                self.stays(desk, f"ask {question} {key}", BadKey)
        desk.say("house " + WIDE)
        self.says(desk, "case 1", "lost left")
        self.stays(desk, "case 2", BadKey)

    def test_bad_houses(self):
        for text in (FIRST.replace("senders 2", "senders 1"), FIRST.replace("x 2", "x 1"), FIRST + " / key 0 0 x 1"):
            desk = Desk()
            desk.say("house " + text)
            for question in ALL_QUESTIONS:
                with self.assertRaises(BadHouse):
                    desk.say("who " + question)
            # What is asked of a key's case does not need them.
            self.says(desk, "ask order 0", "run 9")
            self.says(desk, "case 0", "order")
            self.says(desk, "show", text)


class OneSender(unittest.TestCase):
    def test_a_house_of_one_sender_and_one_letter(self):
        desk = Desk()
        house = built("show open", letters=(1,), senders=1)
        self.assertEqual(desk.say("house " + show_house(house).replace("\n", " / ")), "ok")
        for step in ("learn 0", "send 0 0"):
            self.assertEqual(desk.say("do " + step), "nothing")
        self.assertEqual(desk.say("settle"), "steps 2")
        self.assertEqual(desk.live.events(), [("take", 0, 0, 0)])


if __name__ == "__main__":
    unittest.main()
