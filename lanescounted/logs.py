"""Logs: what the letters that readers of a case took, in their order, tell about the runs in which they did."""

from lanescounted.effects import next_taken
from lanescounted.searches import ways_to
from lanescounted.trails import Trail, ends_among, search_along


def log_places(case, log):
    """Return the list, ascending, of the places of the plan directly behind the last take of a log [28]."""
    trail = Trail(case, log)
    if not log:
        # Nothing was taken that the plan could stand behind, and without senders each word can be done.
        return list(range(len(trail.frame.plan) + 1))
    search = search_along(trail)
    states = [state for _, state in ends_among(trail, search.states)]
    return sorted({place for place, *_ in states})


def log_run(case, log):
    """Return a run, as short as any, whose takes are a log and that ends with the last one, None if none is [28]."""
    trail = Trail(case, log)
    search = search_along(trail)
    ends = ends_among(trail, search.states)
    # Nodes are met in the order of their least runs, so the first one is as near as any.
    return search.path_to(search.numbers[ends[0]]) if ends else None


def next_takes(case, log):
    """Return the list, ascending, of the entries by which a log can be gone on [29]."""
    trail = Trail(case, log)
    waiting = ends_among(trail, search_along(trail).states)
    met = {node: True for node in waiting}
    while waiting:
        node = waiting.pop()
        for _, behind in trail.moves(node):
            if behind not in met:
                met[behind] = True
                waiting.append(behind)
    return sorted({entry for _, state in met for _, _, entry in trail.steps(state) if entry is not None})


def sure_words(case, log):
    """Return how many words are done behind the last take of every run with a log, None if no run has it [29]."""
    return min(log_places(case, log), default=None)


def least_hands(case, log):
    """Return the fewest hands that a run with a log has, None if no run has it [29]."""
    trail = Trail(case, log)
    met = {}
    hands = 0
    level = [trail.start]
    while level:
        following = []
        while level:
            node = level.pop()
            if trail.is_end(node):
                return hands
            if node in met:
                continue
            met[node] = True
            for step, behind in trail.moves(node):
                if step[0] == "hand":
                    following.append(behind)
                else:
                    level.append(behind)
        hands += 1
        level = following
    return None


def log_editions(case, log):
    """Return for each entry of a log the ascending tuple of the editions that its letter can have, or None [29]."""
    trail = Trail(case, log)
    search = search_along(trail)
    ways = ways_to(search, [search.numbers[node] for node in ends_among(trail, search.states)])
    if ways[0] is None:
        return None
    found = [[] for _ in log]
    for number, edges in enumerate(search.edges):
        taken, state = search.states[number]
        for other in edges:
            # Only takes that the rest of the log can stand behind are in runs with the whole log.
            if search.states[other][0] > taken and ways[other] is not None:
                _, _, edition = next_taken(trail.frame, state, log[taken][0])
                found[taken].append(edition)
    return [tuple(sorted(set(editions))) for editions in found]
