"""Spots and lots that the tests of waits share, and what is none."""

import itertools

from things import no_integers, spoiled, strange

WAITS = ("agree", "clear", "drain")


def all_spots(plan):
    """Return all spots of a plan."""
    return list(itertools.product(range(len(plan) + 1), WAITS))


def put_in(plan, spots):
    """Return the plan with waits: a second reading, that sorts all words by where they stand."""
    rows = [(place, 0, word) for place, word in spots] + [(place, 1, word) for place, word in enumerate(plan)]
    return tuple(word for _, _, word in sorted(rows))


def with_lot(case, spots):
    """Return the case with the plan with waits."""
    return (case[0], put_in(case[1], spots)) + case[2:]


def is_spot(plan, thing):
    """Tell whether an object is a spot of a plan."""
    if type(thing) is not tuple or [type(part) for part in thing] != [int, str]:
        return False
    return 0 <= thing[0] <= len(plan) and thing[1] in WAITS


def bad_spots(plan):
    """Return what is no spot of a plan."""
    things = strange() + no_integers() + spoiled((1, "agree")) + [
        (len(plan) + 1, "drain"), (-1, "clear"), (0, "open"), (0, "show"), (False, "agree"), (True, "agree"),
        (0, "agree", 0), ("agree", 0), (0, ("agree",)), (10 ** 5000, "agree"), ((0, "agree"),),
    ]
    return [thing for thing in things if not is_spot(plan, thing)]


def bad_lots(plan):
    """Return what is no lot of a plan."""
    good = (0, "agree")
    lots = [(thing,) for thing in bad_spots(plan)] + [(good, thing) for thing in bad_spots(plan)[::3]]
    others = [[good], [], good, {good: 1}, {good}, (good, good), ((0, "clear"), good), ((1, "agree"), good)]
    others += [(list(good),), (good,) * 9]
    return [thing for thing in strange() + no_integers() if type(thing) is not tuple or thing] + lots + others
