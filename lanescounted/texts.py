"""Texts: schemes, plans, houses and runs written out, and houses and runs read back."""

from lanescounted.checks import is_whole
from lanescounted.errors import BadText
from lanescounted.frames import frame_of
from lanescounted.houses import MOST_KEYS, MOST_LETTERS, MOST_SENDERS, WORDS, are_fitting, check_plan, check_scheme
from lanescounted.houses import is_plan
from lanescounted.runs import MOST_STEPS
from lanescounted.tables import is_course

DIGITS = ("0", "1", "2", "3", "4", "5", "6", "7", "8", "9")
# For each part of a scheme the words that it can be written by.
SCHEME_WORDS = (
    ("asks", "quiet"), ("paced", "piped"), ("back", "lost"), ("behind", "first", "with"), ("steady", "handed"),
)
# For each word of a step how many numbers stand behind it.
STEP_NUMBERS = {
    "word": 0, "learn": 1, "hear": 1, "send": 2, "again": 2, "arrive": 2, "take": 1, "note": 1, "hand": 1,
}
# The lines of a house ahead of those of its keys.
LINES_AHEAD = 4


def show_scheme(scheme):
    """Return the text of a scheme [32]."""
    check_scheme(scheme)
    asks, paced, refused, notes, steady = scheme
    words = ("asks" if asks else "quiet", "paced" if paced else "piped", refused, notes)
    return " ".join([*words, "steady" if steady else "handed"])


def show_plan(plan):
    """Return the text of a plan [32]."""
    check_plan(plan)
    return " ".join(plan)


def show_house(house):
    """Return the text of a house, in lines [32]."""
    frame_of(house)
    scheme, plan, counts, courses, letters, senders = house
    rows = [("counts", *counts), ("senders", senders)]
    rows.extend([("key", *course, "x", number) for course, number in zip(courses, letters)])
    return "\n".join([show_scheme(scheme), show_plan(plan), *[show_row(row) for row in rows]])


def show_run(run):
    """Return the text of a run [32]."""
    return show_rows(run)


def show_rows(rows):
    """Return the text of tuples of words and numbers: of steps, or of events."""
    return "; ".join([show_row(row) for row in rows])


def show_row(row):
    """Return the text of a tuple of words and numbers."""
    return " ".join([str(part) for part in row])


def read_house(text):
    """Return the house that a text writes; BadText, with the line, for any object that writes none [33]."""
    if not isinstance(text, str):
        raise BadText(0)
    parts = []
    for line, row in enumerate(text.split("\n")):
        part = part_of(line, row.split(" "))
        if part is None:
            raise BadText(line)
        parts.append(part)
    if len(parts) <= LINES_AHEAD:
        raise BadText(len(parts))
    scheme, plan, counts, senders, *keys = parts
    check_house(plan, counts, senders, keys)
    courses = tuple([course for course, _ in keys])
    letters = tuple([number for _, number in keys])
    return (scheme, plan, counts, courses, letters, senders)


def read_run(text):
    """Return the list of the steps that a text writes; BadText for any object that writes none [33]."""
    if not isinstance(text, str):
        raise BadText(0)
    steps = [step_of(part) for part in text.split("; ")] if text else []
    if None in steps or len(steps) > MOST_STEPS:
        raise BadText(0)
    return steps


def step_of(text):
    """Return the step that a text writes, None if it is not of the form of one."""
    word, *digits = text.split(" ")
    if STEP_NUMBERS.get(word) != len(digits) or not are_digits(digits):
        return None
    return (word, *[int(digit) for digit in digits])


def are_digits(words):
    """Tell whether each of some words is a single digit."""
    return all([word in DIGITS for word in words])


def part_of(line, words):
    """Return the part of a house that the words of a line write, None if they are not of its form."""
    if line == 0:
        return scheme_of(words)
    if line == 1:
        return plan_of(words)
    if line == 2:
        return counts_of(words)
    return senders_of(words) if line == 3 else key_of(words)


def scheme_of(words):
    """Return the scheme that words write, None if they write none."""
    if len(words) != len(SCHEME_WORDS) or not all([word in good for word, good in zip(words, SCHEME_WORDS)]):
        return None
    asks, paced, refused, notes, steady = words
    return (asks == "asks", paced == "paced", refused, notes, steady == "steady")


def plan_of(words):
    """Return the tuple of the words of a plan's line, None if it is not of its form."""
    return tuple(words) if all([word in WORDS for word in words]) else None


def counts_of(words):
    """Return the tuple of the numbers of the counts' line, None if it is not of its form."""
    word, *digits = words
    if word != "counts" or not digits or not are_digits(digits):
        return None
    return tuple([int(digit) for digit in digits])


def senders_of(words):
    """Return the number of the senders' line, None if it is not of its form."""
    word, *digits = words
    if word != "senders" or len(digits) != 1 or not are_digits(digits):
        return None
    return int(digits[0])


def key_of(words):
    """Return the course and the number of letters of a key's line, None if it is not of its form."""
    if len(words) < 4 or words[0] != "key" or words[-2] != "x":
        return None
    digits = [*words[1:-2], words[-1]]
    if not are_digits(digits):
        return None
    return (tuple([int(digit) for digit in digits[:-1]]), int(digits[-1]))


def check_house(plan, counts, senders, keys):
    """Raise BadText with the first line whose part, which is of its form, fits no house."""
    if not is_plan(plan):
        raise BadText(1)
    if not are_fitting(counts, plan):
        raise BadText(2)
    if not is_whole(senders, 1, MOST_SENDERS):
        raise BadText(3)
    for at, (course, number) in enumerate(keys):
        if at == MOST_KEYS or not is_course(course, counts) or not is_whole(number, 1, MOST_LETTERS):
            raise BadText(LINES_AHEAD + at)
