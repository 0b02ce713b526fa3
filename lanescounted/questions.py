"""Questions about runs, and the runs of a small house that a run leads to, and that lead to it."""

from lanescounted.checks import is_plain, is_row, is_whole, is_word
from lanescounted.effects import next_taken
from lanescounted.errors import BadKey, BadPair, BadQuestion, BadRenaming
from lanescounted.frames import frame_of
from lanescounted.houses import house_of
from lanescounted.runs import follow
from lanescounted.tables import renamings_of

QUESTIONS = ("order", "twice", "lost", "late", "stuck", "left")
# The first four are shown by a step, the last two by the state that a run leaves.
STEP_QUESTIONS = ("order", "twice", "lost", "late")
STATE_QUESTIONS = ("stuck", "left")


def run_shows(house, question, run):
    """Tell whether a run of a house shows one of the first four questions [16]."""
    frame = frame_of(house)
    check_question(question, STEP_QUESTIONS)
    return shows_along(frame, question, run)


def project(house, run, key, first, second):
    """Return the run of the house of the key's case that is left of a run, for two letters of the key [17]."""
    frame = frame_of(house)
    states, _ = follow(frame, run)
    if not is_whole(key, 0, len(frame.courses) - 1):
        raise BadKey("a key is the number of one of the house")
    last = frame.letters[key] - 1
    if not (is_whole(first, 0, last) and is_whole(second, 0, last) and first < second):
        raise BadPair("a pair is the numbers of two letters of the key, the first one less")
    numbers = {(key, first): 0, (key, second): 1}
    senders = senders_of(run, states, numbers)
    return [small for state, step in zip(states, run) for small in projected(frame, state, step, numbers, senders)]


def embed(house, key, run):
    """Return the run of a house that a run of the house of the key's case is one of [18]."""
    frame = frame_of(house)
    if not is_whole(key, 0, len(frame.courses) - 1) or frame.letters[key] < 2 or frame.senders < 2:
        raise BadKey("a key is the number of one of the house with two letters, where there are two senders")
    scheme, plan, counts, courses, _, _ = house
    follow(frame_of(house_of((scheme, plan, counts, courses[key]))), run)
    return [with_key(step, key) for step in run]


def renamed_run(house, lanes, senders, run):
    """Return what a run becomes if lanes and senders are renamed, by the house with its courses renamed so [18]."""
    frame = frame_of(house)
    # The list of the renamings is looked up in only by what can be compared.
    if not (is_plain(lanes, 1) and lanes in renamings_of(frame.counts)):
        raise BadRenaming("a renaming of the counts is a tuple with each lane once, that keeps to the counts")
    if not is_exchange(senders, frame.senders):
        raise BadRenaming("a renaming of the senders is a tuple with the number of each of them once")
    follow(frame, run)
    return [renamed_step(step, lanes, senders) for step in run]


def check_question(question, questions):
    """Raise BadQuestion for any object that is none of these questions."""
    if not is_word(question, questions):
        raise BadQuestion("a question is one of " + ", ".join(questions))


def shows_along(frame, question, run):
    """Tell whether a run shows one of the first four questions; BadStep if it is no run."""
    states, happenings = follow(frame, run)
    return some_shows(question, states, happenings)


def some_shows(question, states, happenings):
    """Tell whether one of some steps, in these states, with these events, shows one of the first four questions."""
    return any([step_shows(question, state, events) for state, events in zip(states, happenings)])


def step_shows(question, state, events):
    """Tell whether a step in this state, with these events, shows one of the first four questions [16]."""
    if question == "order":
        return any([event[0] == "take" and is_early(state, event) for event in events])
    if question == "twice":
        return any([event[0] == "take" and is_taken(state, event) for event in events])
    return any([event[0] == question for event in events])


def is_early(state, event):
    """Tell whether an earlier letter of the key was neither taken nor lost when a letter was taken."""
    _, _, key, number = event
    _, _, _, _, _, _, _, taken, lost = state
    return any([(key, earlier) not in taken and (key, earlier) not in lost for earlier in range(number)])


def is_taken(state, event):
    """Tell whether a letter that is taken had been taken before."""
    _, _, key, number = event
    _, _, _, _, _, _, _, taken, _ = state
    return (key, number) in taken


def senders_of(run, states, letters):
    """Return the new number of each sender that sends one of these letters [17]."""
    senders = {}
    for state, step in zip(states, run):
        if is_send_of(step, state, letters):
            # The first letter is sent ahead of the second one, so its sender comes first.
            senders.setdefault(step[1], len(senders))
    return senders


def is_send_of(step, state, letters):
    """Tell whether a step in this state sends one of these letters."""
    if step[0] != "send":
        return False
    _, _, key = step
    _, _, _, _, _, _, sent, _, _ = state
    return (key, sent[key]) in letters


def projected(frame, state, step, numbers, senders):
    """Return what a step in this state becomes by a projection: the list of one step, or of none [17]."""
    if step[0] == "word":
        return [step]
    if step[0] in ("learn", "hear"):
        return [(step[0], senders[step[1]])] if step[1] in senders else []
    if step[0] == "send":
        return [("send", senders[step[1]], 0)] if is_send_of(step, state, numbers) else []
    if step[0] in ("again", "arrive"):
        return [(step[0], 0, numbers[step[1:]])] if step[1:] in numbers else []
    return [step] if any([letter[:2] in numbers for letter in concerned(frame, state, step)]) else []


def concerned(frame, state, step):
    """Return the letters that a step of a reader takes, notes, or that the reader no longer has by it."""
    word, lane = step
    _, _, _, _, lanes, readers, _, _, _ = state
    if word == "take":
        return [next_taken(frame, state, lane)]
    if frame.notes == "behind":
        return lanes[lane][:readers[lane]]
    return [lanes[lane][0]] if word == "note" else [readers[lane]]


def with_key(step, key):
    """Return a step of a house of one key, for this key of another house."""
    if step[0] == "send":
        return ("send", step[1], key)
    if step[0] in ("again", "arrive"):
        return (step[0], key, step[2])
    return step


def is_exchange(thing, many):
    """Tell whether the object is a tuple with each number below this one once."""
    if not is_row(thing, many, many) or not all([is_whole(number, 0, many - 1) for number in thing]):
        return False
    return len(set(thing)) == many


def renamed_step(step, lanes, senders):
    """Return a step with its lane or its sender renamed."""
    if step[0] in ("take", "note", "hand"):
        return (step[0], lanes[step[1]])
    if step[0] in ("learn", "hear"):
        return (step[0], senders[step[1]])
    if step[0] == "send":
        return ("send", senders[step[1]], step[2])
    return step
