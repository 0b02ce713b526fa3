"""Wrong objects and small helpers that the tests share."""


class Hostile:
    """An object that lets nobody look at it: a check that compares or measures it fails."""

    __hash__ = None

    def __eq__(self, other):
        raise RuntimeError("compared")

    def __lt__(self, other):
        raise RuntimeError("ordered")

    def __bool__(self):
        raise RuntimeError("asked for its truth")

    def __len__(self):
        raise RuntimeError("measured")

    def __iter__(self):
        raise RuntimeError("iterated")


def nested(levels):
    """Return tuples within tuples."""
    thing = ()
    for _ in range(levels):
        thing = (thing,)
    return thing


def strange():
    """Return objects that stand for nothing in the document, wherever they are put."""
    return [
        None, "", "x", "0", "1", "2", "True", "rest ", "REST", "show ", "Show", "shows", b"show", b"rest", b"",
        [], [1], [1, 2], ["show"], {}, {1: 2}, {"show": 1}, set(), frozenset([1]), (), (None,), ((),), ([],), ({},),
        nested(100), -1, -10 ** 60, 10 ** 60, 10 ** 5000, object(), Hostile(), (Hostile(),), int, len, range(2),
        ValueError("1"),
    ]


def no_integers():
    """Return what is no integer, however near."""
    return [thing for thing in strange() if not isinstance(thing, int)] + [True, False, (1,), (1, 2), "rest", "ranges"]


def bad_kinds():
    """Return what is no kind of a table."""
    return strange() + [True, False, 0, 1, 2, ("rest",), ["rest"], ["ranges"], "range", "Rest", "rest ranges"]


def bad_integers(low, high):
    """Return what is no integer from low to high."""
    return no_integers() + [low - 1, high + 1, low - 10 ** 50, high + 10 ** 50, high + 10 ** 5000]


def paths_of(thing):
    """Return all paths into nested tuples, as tuples of indexes: () for the whole, and so on."""
    paths = [()]
    if isinstance(thing, tuple):
        for index, part in enumerate(thing):
            paths += [(index,) + path for path in paths_of(part)]
    return paths


def part_at(thing, path):
    """Return the part of nested tuples that a path leads to."""
    for index in path:
        thing = thing[index]
    return thing


def replaced(thing, path, part):
    """Return nested tuples with the part that the path leads to exchanged."""
    if not path:
        return part
    index, *rest = path
    return thing[:index] + (replaced(thing[index], rest, part),) + thing[index + 1:]
