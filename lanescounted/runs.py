"""Runs: lists of steps of a house, the state that they leave, and their events."""

from lanescounted.effects import after_step
from lanescounted.errors import BadStep
from lanescounted.frames import frame_of
from lanescounted.moves import can_take, first_state, steps_in

MOST_STEPS = 200


def possible_steps(house, run):
    """Return the list, ascending, of the steps that can be taken in the state that a run leaves [15]."""
    frame = frame_of(house)
    states, _ = follow(frame, run)
    return steps_in(frame, states[-1])


def events_of(house, run):
    """Return the list of the events of a run, in order [15]."""
    _, happenings = follow(frame_of(house), run)
    return [event for events in happenings for event in events]


def state_after(house, run):
    """Return the state that a run leaves [15]."""
    states, _ = follow(frame_of(house), run)
    return states[-1]


def follow(frame, run):
    """Return the states of a run, the first one included, and for each step the list of its events [15]."""
    if not isinstance(run, list):
        raise BadStep(0)
    states, happenings = walk(frame, first_state(frame), run[:MOST_STEPS])
    if len(run) > MOST_STEPS:
        raise BadStep(MOST_STEPS)
    return states, happenings


def walk(frame, start, steps):
    """Return the states of any number of steps, the start included, and for each step the list of its events."""
    states = [start]
    happenings = []
    for place, step in enumerate(steps):
        if not can_take(frame, states[-1], step):
            raise BadStep(place)
        state, events = after_step(frame, states[-1], step)
        states.append(state)
        happenings.append(events)
    return states, happenings
