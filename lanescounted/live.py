"""Live houses: a house and a run of it, which grows by steps and can be taken back."""

from lanescounted.checks import is_whole
from lanescounted.effects import after_step
from lanescounted.errors import BadLane, BadStep, NothingToUndo, TooMany
from lanescounted.frames import frame_of
from lanescounted.houses import MOST_SENDERS
from lanescounted.moves import can_take, first_state, steps_in
from lanescounted.questions import STEP_QUESTIONS, check_question, some_shows
from lanescounted.runs import walk

SETTLING = ("arrive", "note", "take")
# What is done if a sender is let in, beside the steps; it is no step of any house.
LET_IN = ("sender",)


class House:
    """A house under way: what was done to it, at first nothing [30], [31]."""

    def __init__(self, house):
        self.frame = frame_of(house)
        self.first = house
        self.deeds = []
        # The state ahead of each deed and behind the last one, and the list of the events of each deed.
        self.states = [first_state(self.frame)]
        self.happenings = []

    def take_step(self, step):
        """Take a step, and return the list of its events; BadStep with place 0 if it cannot be taken."""
        if not can_take(self.frame, self.states[-1], step):
            raise BadStep(0)
        state, events = after_step(self.frame, self.states[-1], step)
        self.deeds.append(step)
        self.states.append(state)
        self.happenings.append(events)
        return list(events)

    def undo(self):
        """Take back the last step, or the last sender that was let in."""
        if not self.deeds:
            raise NothingToUndo("nothing was done, or all was taken back")
        self.deeds.pop()
        self.states.pop()
        self.happenings.pop()

    def run(self):
        """Return the list of the steps that were taken."""
        return [deed for deed in self.deeds if deed != LET_IN]

    def steps(self):
        """Return the list, ascending, of the steps that can be taken now."""
        return steps_in(self.frame, self.states[-1])

    def events(self):
        """Return the list of all events, in order."""
        return [event for events in self.happenings for event in events]

    def state(self):
        """Return the state that the run leaves."""
        return self.states[-1]

    def settle(self):
        """Let letters arrive, be noted and be taken as long as one can, and return the list of these steps."""
        done = []
        ready = settling_steps(self.steps())
        while ready:
            self.take_step(ready[0])
            done.append(ready[0])
            ready = settling_steps(self.steps())
        return done

    def try_all(self, steps):
        """Take all steps of a list; none of them if one cannot be taken, but BadStep with its index."""
        if not isinstance(steps, list):
            raise BadStep(0)
        states, happenings = walk(self.frame, self.states[-1], steps)
        self.deeds.extend(steps)
        self.states.extend(states[1:])
        self.happenings.extend(happenings)

    def add_sender(self):
        """Let a further sender in, which holds no edition, and return its number; TooMany if there are three."""
        place, held, *rest = self.states[-1]
        if len(held) == MOST_SENDERS:
            raise TooMany(f"there are at most {MOST_SENDERS} senders")
        self.deeds.append(LET_IN)
        self.states.append((place, (*held, -1), *rest))
        self.happenings.append([])
        return len(held)

    def shows(self, question):
        """Tell whether the run shows one of the first four questions."""
        check_question(question, STEP_QUESTIONS)
        return some_shows(question, self.states, self.happenings)

    @property
    def words(self):
        """The number of words that are done."""
        return self.states[-1][0]

    def copy(self):
        """Return another house with the same first house and the same deeds."""
        other = House(self.first)
        other.deeds = list(self.deeds)
        other.states = list(self.states)
        other.happenings = list(self.happenings)
        return other

    def __len__(self):
        return len(self.deeds)

    def __eq__(self, other):
        return isinstance(other, House) and self.first == other.first and self.deeds == other.deeds

    def __getitem__(self, lane):
        _, _, _, _, lanes, *_ = self.states[-1]
        if not is_whole(lane, 0, len(lanes) - 1):
            raise BadLane("a lane is the number of one of the house")
        return tuple([(key, number) for key, number, _ in lanes[lane]])

    # Python would else iterate by the lanes' numbers, until BadLane came out of it.
    def __iter__(self):
        raise TypeError("a house is asked for one lane at a time")


def settling_steps(steps):
    """Return those of some steps, in their order, that settle a house."""
    return [step for step in steps if step[0] in SETTLING]
