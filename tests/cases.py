"""Cases that the tests of answers share, with how many steps the shortest runs have that show each question."""

import functools
import random

from model import Atlas, random_case
from things import ALL_QUESTIONS


def case_of(plan, counts=(1, 2), course=(0, 1), **scheme):
    """Return a case: by default with the scheme of the document's example."""
    parts = {"asks": False, "paced": True, "refused": "back", "notes": "with", "steady": True, **scheme}
    assert len(parts) == 5
    return (tuple(parts.values()), tuple(plan.split()), counts, course)


EXAMPLE = case_of("show open")
FENCED = case_of("show close drain open")
STUCK = case_of("show agree")
TOLD = case_of("show tell agree")
SHUT = case_of("show close")
LATE = case_of("show drain")
HANDED = case_of("show", (1, 1), (0, 0), notes="behind", steady=False)
IN_HAND = case_of("show", (1, 1), (0, 0), notes="first", steady=False)
# (case, question, steps of a shortest run that shows it, None if there is none), each found by hand.
KNOWN = [
    (EXAMPLE, "order", 9),  # learn, send, word, word, learn, arrive, send, arrive, take
    (EXAMPLE, "twice", None), (EXAMPLE, "lost", None), (EXAMPLE, "late", None), (EXAMPLE, "stuck", None),
    (EXAMPLE, "left", None),
    (FENCED, "order", None), (FENCED, "late", None),
    (case_of("show close drain open", paced=False), "order", 10),  # learn, send, four words, learn, send, arrive, take
    (STUCK, "stuck", 1),  # learn: the edition 0 is held for ever
    (case_of("show agree", asks=True), "stuck", 1), (TOLD, "stuck", None),
    (SHUT, "left", 4),  # learn, send, word, word: the letter will be refused
    (case_of("show close", refused="lost"), "left", None), (case_of("show close", refused="lost"), "lost", 5),
    (LATE, "late", 5),  # learn, send, word, word, arrive
    (HANDED, "twice", 6),  # learn, send, arrive, take, hand, take
    (HANDED, "lost", None), (IN_HAND, "lost", 5),  # learn, send, arrive, note, hand
    (IN_HAND, "twice", None),
    (case_of("show drop", (2, 1), (1, 0)), "lost", 5),  # learn, send, word, word, arrive
    (case_of("show copy open", notes="behind"), "twice", 8),  # learn, send, arrive, take, word, word, word, take
]


@functools.cache
def atlases():
    """Return (case, atlas) of some random cases, and of some known ones."""
    dice = random.Random(19)
    cases = [EXAMPLE, STUCK, TOLD, SHUT, LATE, HANDED, IN_HAND] + [random_case(dice, 4) for _ in range(90)]
    return [(case, Atlas(case)) for case in cases]


@functools.cache
def answers_of_the_model():
    """Return (case, atlas, question, least) of these cases and all questions."""
    return [(case, atlas, question, atlas.least(question)) for case, atlas in atlases() for question in ALL_QUESTIONS]
