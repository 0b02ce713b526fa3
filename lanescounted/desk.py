"""The desk: rows of text, each of which it answers with a text, about one live house."""

from lanescounted.answers import answer_for, answer_to, questions_shown
from lanescounted.errors import BadCommand, BadKey
from lanescounted.live import House
from lanescounted.plans import left_lanes, shut_lanes
from lanescounted.questions import QUESTIONS, check_question
from lanescounted.texts import are_digits, read_house, show_house, show_row, show_rows, step_of

FIRST_HOUSE = ((False, True, "back", "with", True), ("show", "open"), (1, 2), ((0, 1),), (2,), 2)
# What stands in a row in the place of a line feed.
LINE_MARK = " / "
# For each word of a row, but "house" and "do", what stands behind it.
FORMS = {
    "undo": (), "settle": (), "lane": ("digit",), "ask": ("text", "digit"), "who": ("text",), "left": (), "shut": (),
    "case": ("digit",), "show": (),
}


class Desk:
    """A live house that is asked, and changed, by rows of text [34]."""

    def __init__(self):
        self.live = House(FIRST_HOUSE)

    def say(self, row):
        """Return the answer to a row; after an error nothing has changed [34], [35]."""
        word, parts = command_of(row)
        answer = ANSWERS[word]
        return answer(self, *parts)


def command_of(row):
    """Return the word of a row and the list of what stands behind it; BadCommand for any object that is no row."""
    if isinstance(row, str):
        word, blank, rest = row.partition(" ")
        if word == "house" and blank:
            return word, [rest]
        step = step_of(rest)
        if word == "do" and step is not None:
            return word, [step]
        parts = row.split(" ")[1:]
        if word in FORMS and "\n" not in row and is_formed(parts, FORMS[word]):
            return word, [int(part) if form == "digit" else part for part, form in zip(parts, FORMS[word])]
    raise BadCommand("the desk knows no such row")


def is_formed(parts, forms):
    """Tell whether the parts of a row are of these forms."""
    if len(parts) != len(forms) or "" in parts:
        return False
    return are_digits([part for part, form in zip(parts, forms) if form == "digit"])


def say_house(desk, text):
    """Take another house."""
    desk.live = House(read_house(text.replace(LINE_MARK, "\n")))
    return "ok"


def say_do(desk, step):
    """Take a step, and tell its events."""
    return show_rows(desk.live.take_step(step)) or "nothing"


def say_undo(desk):
    """Take back the last step."""
    desk.live.undo()
    return "ok"


def say_settle(desk):
    """Settle the house, and tell by how many steps."""
    steps = desk.live.settle()
    return f"steps {len(steps)}"


def say_lane(desk, lane):
    """Tell the letters in a lane."""
    return " ".join([f"{key}:{number}" for key, number in desk.live[lane]]) or "empty"


def say_ask(desk, question, key):
    """Tell how long a shortest run of a key's case is that shows a question, or how many entries tell that none is."""
    check_question(question, QUESTIONS)
    word, told = answer_to(case_of(desk, key), question)
    return f"{word} {len(told)}"


def say_who(desk, question):
    """Tell which key is harmed."""
    # The question is looked at first here, though the house comes first in answer_for.
    check_question(question, QUESTIONS)
    answer = answer_for(desk.live.first, question)
    if answer is None:
        return "nobody"
    key, steps = answer
    return f"key {key} {len(steps)}"


def say_left(desk):
    """Tell the lanes that can be read at the end, though the last edition does not serve them."""
    _, plan, counts, *_ = desk.live.first
    return show_row(left_lanes(plan, counts)) or "none"


def say_shut(desk):
    """Tell the lanes that the last edition serves, but that cannot be read at the end."""
    _, plan, counts, *_ = desk.live.first
    return show_row(shut_lanes(plan, counts)) or "none"


def say_case(desk, key):
    """Tell the questions that the case of a key shows."""
    return " ".join(questions_shown(case_of(desk, key))) or "none"


def say_show(desk):
    """Tell the house, as it was at first."""
    return show_house(desk.live.first).replace("\n", LINE_MARK)


def case_of(desk, key):
    """Return the case of a key of the house; BadKey if it has no such key."""
    scheme, plan, counts, courses, *_ = desk.live.first
    if key >= len(courses):
        raise BadKey("a key is the number of one of the house")
    return (scheme, plan, counts, courses[key])


ANSWERS = {
    "house": say_house, "do": say_do, "undo": say_undo, "settle": say_settle, "lane": say_lane, "ask": say_ask,
    "who": say_who, "left": say_left, "shut": say_shut, "case": say_case, "show": say_show,
}
