"""Answers: a run of a case that shows a question, or all its states, and tests of such answers."""

from lanescounted.checks import is_plain, is_row, is_word
from lanescounted.effects import after_step
from lanescounted.errors import BadHouse, BadStep
from lanescounted.frames import Frame, frame_of
from lanescounted.houses import house_of
from lanescounted.moves import first_state, steps_in
from lanescounted.questions import QUESTIONS, STATE_QUESTIONS, STEP_QUESTIONS
from lanescounted.questions import check_question, embed, shows_along, step_shows
from lanescounted.runs import follow
from lanescounted.searches import is_well, ranks_in, search_from

# How deep tuples stand within each other in a state, and in a tuple of a state and a number.
LEVELS_OF_A_STATE = 4
LEVELS_OF_A_RANK = 5


def answer_to(case, question):
    """Return a shortest run of a case that shows a question, or all that its runs can come to [19]."""
    frame = Frame(house_of(case))
    check_question(question, QUESTIONS)
    search = search_from(frame, first_state(frame), (question,))
    if question in search.proofs:
        return ("run", search.proofs[question])
    if question in STEP_QUESTIONS:
        return ("never", sorted(search.states))
    ranks = ranks_in(search, frame, question)
    if None in ranks:
        # The numbers ascend by the least runs, so the first one is as near as any.
        return ("run", search.path_to(ranks.index(None)))
    return ("never", sorted(zip(search.states, ranks)))


def answer_holds(case, question, answer):
    """Tell whether any object is an answer that shows what it says [20]."""
    frame = Frame(house_of(case))
    check_question(question, QUESTIONS)
    if not is_row(answer, 2, 2):
        return False
    word, told = answer
    if not is_word(word, ("run", "never")) or not isinstance(told, list):
        return False
    if word == "run":
        return is_proof(frame, question, told)
    if not all([is_plain(entry, LEVELS_OF_A_RANK) for entry in told]):
        return False
    true_word, entries = answer_to(case, question)
    return true_word == "never" and set(told) == set(entries)


def states_close(case, question, states):
    """Tell whether any object is a list of states that no step leaves, but to a twin, or shows the question by [21]."""
    frame = Frame(house_of(case))
    check_question(question, STEP_QUESTIONS)
    if not isinstance(states, list) or not all([is_plain(state, LEVELS_OF_A_STATE) for state in states]):
        return False
    listed = {state: True for state in states}
    if not are_states(frame, listed):
        return False
    for state in listed:
        for step in steps_in(frame, state):
            behind, events = after_step(frame, state, step)
            if step_shows(question, state, events) or not (behind in listed or twin_of(behind) in listed):
                return False
    return True


def ranks_fall(case, question, ranks):
    """Tell whether any object is a list of states and numbers that can fall until all is well [21]."""
    frame = Frame(house_of(case))
    check_question(question, STATE_QUESTIONS)
    if not isinstance(ranks, list) or not all([is_rank(entry) for entry in ranks]):
        return False
    listed = {state: number for state, number in ranks}
    if len(listed) < len(ranks) or not are_states(frame, listed):
        return False
    for state, number in ranks:
        found = [listed.get(after_step(frame, state, step)[0]) for step in steps_in(frame, state)]
        if None in found:
            return False
        if not is_well(frame, question, state) and min(found, default=number) >= number:
            return False
    return True


def answer_for(house, question):
    """Return the least key of a house whose case has a run that shows a question, and such a run, None if none [22]."""
    frame = frame_of(house)
    if frame.senders < 2 or min(frame.letters) < 2:
        raise BadHouse("there are two senders or more, and two letters or more of each key")
    check_question(question, QUESTIONS)
    scheme, plan, counts, courses, _, _ = house
    for key, course in enumerate(courses):
        word, steps = answer_to((scheme, plan, counts, course), question)
        if word == "run":
            return (key, embed(house, key, steps))
    return None


def questions_shown(case):
    """Return the tuple of the questions, in their order, that some run of a case shows [22]."""
    frame = Frame(house_of(case))
    search = search_from(frame, first_state(frame), QUESTIONS)
    found = [question for question in STATE_QUESTIONS if None in ranks_in(search, frame, question)]
    return tuple([question for question in QUESTIONS if question in search.proofs or question in found])


def is_proof(frame, question, steps):
    """Tell whether a list is a run that shows the question."""
    try:
        if question in STEP_QUESTIONS:
            return shows_along(frame, question, steps)
        states, _ = follow(frame, steps)
    except BadStep:
        return False
    search = search_from(frame, states[-1], STATE_QUESTIONS)
    return not any([is_well(frame, question, state) for state in search.states])


def are_states(frame, listed):
    """Tell whether plain objects are states that runs have, the first state among them."""
    start = first_state(frame)
    numbers = search_from(frame, start, STATE_QUESTIONS).numbers
    return start in listed and all([state in numbers for state in listed])


def is_rank(thing):
    """Tell whether the object is a tuple of what may be a state and an integer from 0 on."""
    return is_row(thing, 2, 2) and is_plain(thing, LEVELS_OF_A_RANK) and isinstance(thing[1], int) and thing[1] >= 0


def twin_of(state):
    """Return a state with the senders 0 and 1 exchanged [21]."""
    place, held, way, back, *rest = state
    return (place, held[::-1], twin_entries(way), twin_entries(back), *rest)


def twin_entries(entries):
    """Return entries of way or back with the senders 0 and 1 exchanged."""
    return tuple([(1 - sender, edition, key, number) for sender, edition, key, number in entries])
