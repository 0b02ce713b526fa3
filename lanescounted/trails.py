"""Trails: what runs of a case can come to along a log of the letters that were taken."""

from lanescounted.checks import is_row, is_whole
from lanescounted.effects import after_step
from lanescounted.errors import BadLog
from lanescounted.frames import Frame
from lanescounted.houses import LETTERS_OF_A_CASE, house_of
from lanescounted.moves import first_state, steps_in
from lanescounted.searches import Search

MOST_TAKEN = 20


class Trail:
    """A case and a log. A node is (taken, state): how many entries of the log were taken, and what is so then."""

    def __init__(self, case, log):
        self.frame = Frame(house_of(case))
        check_log(log, max(self.frame.counts))
        self.log = list(log)
        self.start = (0, first_state(self.frame))
        # The steps of a state are the same for any number of entries, so they are found once.
        self.known = {}

    def is_end(self, node):
        """Tell whether all entries are taken in a node."""
        return node[0] == len(self.log)

    def moves(self, node):
        """Return the list of (step, node behind it) of the steps that keep to the log."""
        taken, state = node
        moves = []
        for step, behind, entry in self.steps(state):
            if entry is None:
                moves.append((step, (taken, behind)))
            elif not self.is_end(node) and entry == self.log[taken]:
                moves.append((step, (taken + 1, behind)))
        return moves

    def steps(self, state):
        """Return the list of (step, state behind it, entry of the log or None) of the steps in a state."""
        if state not in self.known:
            self.known[state] = [followed(self.frame, state, step) for step in steps_in(self.frame, state)]
        return self.known[state]


def followed(frame, state, step):
    """Return a step, the state behind it, and the entry of a log that it makes, None if it takes nothing."""
    behind, events = after_step(frame, state, step)
    if step[0] != "take":
        return step, behind, None
    _, lane, _, number = events[0]
    return step, behind, (lane, number)


def search_along(trail):
    """Return the search of all nodes up to those in which the last entry was just taken."""
    search = Search(trail.start)
    while len(search.edges) < len(search.states):
        number = len(search.edges)
        node = search.states[number]
        moves = [] if trail.is_end(node) else trail.moves(node)
        search.edges.append([search.meet(behind, number, step) for step, behind in moves])
    return search


def ends_among(trail, nodes):
    """Return those of some nodes, in their order, in which all entries of the log are taken."""
    return [node for node in nodes if trail.is_end(node)]


def check_log(log, lanes):
    """Raise BadLog for an object that is no log of a case with so many lanes."""
    if not isinstance(log, list) or len(log) > MOST_TAKEN or not all([is_entry(thing, lanes) for thing in log]):
        raise BadLog(f"a log is a list of at most {MOST_TAKEN} tuples of a lane and the number of a letter")


def is_entry(thing, lanes):
    """Tell whether any object is an entry of a log."""
    return is_row(thing, 2, 2) and is_whole(thing[0], 0, lanes - 1) and is_whole(thing[1], 0, LETTERS_OF_A_CASE - 1)
