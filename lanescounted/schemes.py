"""Schemes: which one is within another one, and the runs that are carried over."""

from lanescounted.errors import NotWithin
from lanescounted.frames import Frame
from lanescounted.houses import check_scheme, house_of
from lanescounted.runs import follow


def scheme_within(scheme, other):
    """Tell whether a scheme is within another one [27]."""
    check_scheme(scheme)
    check_scheme(other)
    return is_within(scheme, other)


def carried_run(case, scheme, run):
    """Return the run of a case with another scheme, around its own, that has the events of a run [27]."""
    frame = Frame(house_of(case))
    check_scheme(scheme)
    if not is_within(case[0], scheme):
        raise NotWithin("the scheme of the case is not within the other one")
    follow(frame, run)
    _, _, _, notes, _ = scheme
    return [new for step in run for new in carried(step, frame.notes, notes)]


def is_within(scheme, other):
    """Tell whether a scheme that is known to be good is within another such one."""
    asks, paced, refused, notes, steady = scheme
    asks_too, paced_too, refused_too, notes_too, steady_too = other
    if (asks and not asks_too) or (paced_too and not paced) or (steady_too and not steady):
        return False
    return refused == refused_too and notes in (notes_too, "with")


def carried(step, notes, other):
    """Return what a step by one way to note becomes by another one: the list of one step, or of two."""
    if step[0] != "take" or notes == other:
        return [step]
    # By "with" a letter goes out of its lane when it is taken. If nothing comes between the take and the note,
    # there is no state in which the two ways differ, but the one between these two.
    note = ("note", step[1])
    return [step, note] if other == "behind" else [note, step]
