"""Waits: words that are put into a plan, those of them that are needed, and runs that keep to them."""

from lanescounted.checks import is_row, is_whole, is_word
from lanescounted.errors import BadQuestion, BadSpot, NotEnough, TooMany
from lanescounted.frames import Frame
from lanescounted.houses import MOST_WORDS, check_case, check_plan, house_of
from lanescounted.moves import can_do, first_state
from lanescounted.runs import follow
from lanescounted.searches import search_from

WAITS = ("agree", "clear", "drain")
WAIT_QUESTIONS = ("order", "twice", "lost")
MOST_SPOTS = 3


def with_waits(plan, lot):
    """Return the plan in which the words of a lot of spots stand at their places [24]."""
    check_plan(plan)
    check_lot(plan, lot)
    check_words(plan, lot)
    return plan_with(plan, lot)


def least_waits(case, questions, spots):
    """Return the list, ascending, of the least lots of some spots with which no question can be shown [25]."""
    check_case(case)
    check_wait_questions(questions)
    check_spots(case[1], spots)
    check_few(case[1], spots)
    found = []
    for lot in lots_of(sorted(spots)):
        # A wait only takes runs away: what has a lot within it that is enough is enough, too, but no least one.
        if not any([is_part_of(least, lot) for least in found]) and not proofs_with(case, questions, lot):
            found.append(lot)
    return sorted(found)


def runs_against(case, questions, lot):
    """Return for each spot of a lot that is enough what can be shown without it: (question, run), or None [25]."""
    check_case(case)
    check_wait_questions(questions)
    check_lot(case[1], lot)
    check_few(case[1], lot)
    if proofs_with(case, questions, lot):
        raise NotEnough("a question can be shown with all waits of the lot")
    return [first_proof(case, questions, lot[:at] + lot[at + 1:]) for at in range(len(lot))]


def kept_run(case, run, lot):
    """Return the run with the waits of a lot put in, each as early as it can be done; None if one cannot be [26]."""
    frame = Frame(house_of(case))
    states, _ = follow(frame, run)
    check_lot(frame.plan, lot)
    check_words(frame.plan, lot)
    kept = []
    waits = words_at(lot, 0)
    for number, state in enumerate(states):
        place, *_ = state
        done = done_at_once(frame.moments[place], state, waits)
        waits = waits[done:]
        kept.extend([("word",)] * done)
        # Behind the last step there is no further one, but there may have been waits.
        following = run[number:number + 1]
        if following == [("word",)]:
            if waits:
                return None
            waits = words_at(lot, place + 1)
        kept.extend(following)
    return kept


def done_at_once(moment, state, waits):
    """Return how many of the waits, in their order, can be done in a state."""
    done = 0
    # A wait that is done changes nothing that another one asks for.
    while done < len(waits) and can_do(moment, state, waits[done]):
        done += 1
    return done


def plan_with(plan, lot):
    """Return a plan with the words of a lot ahead of its words."""
    words = []
    for place in range(len(plan) + 1):
        words.extend(words_at(lot, place))
        words.extend(plan[place:place + 1])
    return tuple(words)


def words_at(lot, place):
    """Return the list of the words of the spots at a place, in their order."""
    return [word for other, word in lot if other == place]


def lots_of(spots):
    """Return all lots of some spots, which ascend; each lot stands behind those that are within it."""
    lots = [()]
    for spot in spots:
        lots = [*lots, *[(*lot, spot) for lot in lots]]
    return lots


def is_part_of(lot, other):
    """Tell whether each spot of a lot is one of another lot."""
    return all([spot in other for spot in lot])


def proofs_with(case, questions, lot):
    """Return for each of the questions that can be shown with the waits of a lot a run of that plan that shows it."""
    scheme, plan, counts, course = case
    frame = Frame(house_of((scheme, plan_with(plan, lot), counts, course)))
    return search_from(frame, first_state(frame), questions).proofs


def first_proof(case, questions, lot):
    """Return the first of the questions that can be shown with the waits of a lot, and a run; None if none can."""
    proofs = proofs_with(case, questions, lot)
    for question in questions:
        if question in proofs:
            return (question, proofs[question])
    return None


def check_wait_questions(questions):
    """Raise BadQuestion for an object that is no list of one to three questions that waits can settle."""
    if not isinstance(questions, list) or not all([is_word(question, WAIT_QUESTIONS) for question in questions]):
        raise BadQuestion("questions are a list of order, twice and lost")
    if not questions or len(set(questions)) < len(questions):
        raise BadQuestion("there is a question, and none stands twice")


def is_spot(plan, thing):
    """Tell whether any object is a spot of a plan [24]."""
    return is_row(thing, 2, 2) and is_whole(thing[0], 0, len(plan)) and is_word(thing[1], WAITS)


def check_lot(plan, lot):
    """Raise BadSpot for an object that is no lot of a plan."""
    if not isinstance(lot, tuple) or not all([is_spot(plan, spot) for spot in lot]):
        raise BadSpot("a lot is a tuple of spots")
    if not all([early < late for early, late in zip(lot, lot[1:])]):
        raise BadSpot("the spots of a lot ascend, and none stands twice")


def check_spots(plan, spots):
    """Raise BadSpot for an object that is no list of spots of a plan, without duplicates."""
    if not isinstance(spots, list) or not all([is_spot(plan, spot) for spot in spots]):
        raise BadSpot("spots are a list of tuples of a place and a word")
    if len(set(spots)) < len(spots):
        raise BadSpot("no spot stands twice")


def check_words(plan, spots):
    """Raise TooMany if a plan had too many words with some spots."""
    if len(plan) + len(spots) > MOST_WORDS:
        raise TooMany(f"a plan has at most {MOST_WORDS} words")


def check_few(plan, spots):
    """Raise TooMany if some spots are too many to try them all, or for the plan."""
    if len(spots) > MOST_SPOTS:
        raise TooMany(f"there are at most {MOST_SPOTS} spots here")
    check_words(plan, spots)
