"""Searches: all states that runs of a house have, and how far each of them is from where all is well."""

from lanescounted.effects import after_step
from lanescounted.moves import steps_in
from lanescounted.questions import step_shows


class Search:
    """The states that can be reached from a start, numbered in the order in which they were met."""

    def __init__(self, start):
        self.states = [start]
        self.numbers = {start: 0}
        # For each number the number of the state ahead of it and the step between them; the start has none.
        self.origins = [None]
        # For each number the numbers of the states that its steps lead to.
        self.edges = []
        # For each question that a step was found to show a least run that shows it.
        self.proofs = {}

    def meet(self, state, number, step):
        """Return the number of a state that a step leads to from the state with a number."""
        found = self.numbers.get(state)
        if found is None:
            found = len(self.states)
            self.numbers[state] = found
            self.states.append(state)
            self.origins.append((number, step))
        return found

    def path_to(self, number):
        """Return the steps, as few as any, from the start to the state with a number."""
        path = []
        while number > 0:
            number, step = self.origins[number]
            path.append(step)
        return path[::-1]


def search_from(frame, start, questions):
    """Return the search from a start, which ends early if it has a proof of each of the questions.

    No step shows "stuck" or "left", so with one of these it goes on to its end.
    """
    search = Search(start)
    while len(search.proofs) < len(questions) and len(search.edges) < len(search.states):
        number = len(search.edges)
        state = search.states[number]
        edges = []
        for step in steps_in(frame, state):
            behind, events = after_step(frame, state, step)
            for question in questions:
                if question not in search.proofs and step_shows(question, state, events):
                    # States are met in the order of their least runs, so no shorter run shows it.
                    search.proofs[question] = [*search.path_to(number), step]
            edges.append(search.meet(behind, number, step))
        search.edges.append(edges)
    return search


def ranks_in(search, frame, question):
    """Return for each number of a state the fewest steps to one that is well by the question, None if none is [19]."""
    well = [number for number, state in enumerate(search.states) if is_well(frame, question, state)]
    return ways_to(search, well)


def ways_to(search, targets):
    """Return for each number of a state the fewest steps to one of some targets, None if no way leads there."""
    ahead = [[] for _ in search.states]
    for number, edges in enumerate(search.edges):
        for other in edges:
            ahead[other].append(number)
    ranks = [None for _ in search.states]
    for number in targets:
        ranks[number] = 0
    level = targets
    while level:
        following = []
        for number in level:
            for other in ahead[number]:
                if ranks[other] is None:
                    ranks[other] = ranks[number] + 1
                    following.append(other)
        level = following
    return ranks


def is_well(frame, question, state):
    """Tell whether a state has all words done, for "stuck", or each letter that was sent at its end, for "left"."""
    place, _, _, _, _, _, sent, taken, lost = state
    if question == "stuck":
        return place == len(frame.plan)
    # No letter is both in taken and in lost, so it is enough to count them.
    return sum(sent) == len(taken) + len(lost)
