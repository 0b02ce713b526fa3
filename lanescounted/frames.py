"""Frames: a house taken apart, and what the words that are done have set at each place of its plan."""

from lanescounted.errors import BadHouse
from lanescounted.houses import is_house


class Frame:
    """A house that is known to be good, taken apart, with a moment for each place of its plan."""

    def __init__(self, house):
        scheme, plan, counts, courses, letters, senders = house
        asks, paced, refused, notes, steady = scheme
        self.asks = asks
        self.paced = paced
        self.refused = refused
        self.notes = notes
        self.steady = steady
        self.plan = plan
        self.counts = counts
        self.courses = courses
        self.letters = letters
        self.senders = senders
        # What a reader stands at when it has nothing.
        self.idle = () if notes == "first" else 0
        self.moments = [Moment(plan[:place], counts) for place in range(len(plan) + 1)]


class Moment:
    """What some first words of a plan have set, when they are done [10]."""

    def __init__(self, done, counts):
        self.shown = done.count("show")
        self.told = shown_at_last(done, "tell")
        self.closed = shown_at_last(done, "close")
        self.opened = shown_at_last(done, "open")
        self.drained = shown_at_last(done, "drain")
        self.dropped = shown_at_last(done, "drop") - 1
        self.newest = max(self.told, self.opened)
        first_kept = self.dropped + 1
        lanes = range(max(counts))
        self.readable = [lane for lane in lanes if is_served(lane, counts[first_kept:self.opened + 1])]
        self.dead = [lane for lane in lanes if not is_served(lane, counts[first_kept:])]


def frame_of(house):
    """Return the frame of a house; BadHouse for any object that is none."""
    if not is_house(house):
        raise BadHouse("a house is a tuple of a scheme, a plan, counts, courses, letters and senders")
    return Frame(house)


def shown_at_last(done, word):
    """Return how many shows were done at the last such word, 0 if there was none."""
    places = [place for place, other in enumerate(done) if other == word]
    return done[:places[-1]].count("show") if places else 0


def is_served(lane, counts):
    """Tell whether an edition with one of these counts serves the lane."""
    return any([count > lane for count in counts])
