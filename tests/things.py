"""Wrong objects and small helpers that the tests share."""

ALL_QUESTIONS = ("order", "twice", "lost", "late", "stuck", "left")


class Hostile:
    """An object that lets nobody look at it: a check that compares or measures it fails."""

    __hash__ = None

    def __eq__(self, other):
        raise RuntimeError("compared")

    def __lt__(self, other):
        raise RuntimeError("ordered")

    def __bool__(self):
        raise RuntimeError("asked for its truth")

    def __len__(self):
        raise RuntimeError("measured")

    def __iter__(self):
        raise RuntimeError("iterated")


def nested(levels):
    """Return tuples within tuples."""
    thing = ()
    for _ in range(levels):
        thing = (thing,)
    return thing


def doubled(levels):
    """Return tuples within tuples of which nobody could visit all, for each has the next one twice."""
    thing = ()
    for _ in range(levels):
        thing = (thing, thing)
    return thing


def strange():
    """Return objects that stand for nothing in the document, wherever they are put."""
    return [
        None, "", "x", "0", "1", "2", "True", "rest ", "REST", "show ", "Show", "shows", b"show", b"rest", b"",
        [], [1], [1, 2], ["show"], {}, {1: 2}, {"show": 1}, set(), frozenset([1]), (), (None,), ((),), ([],), ({},),
        nested(100), doubled(90), -1, -10 ** 60, 10 ** 60, 10 ** 5000, object(), Hostile(), (Hostile(),), int, len, range(2),
        ValueError("1"),
    ]


def no_integers():
    """Return what is no integer, however near."""
    return [thing for thing in strange() if not isinstance(thing, int)] + [True, False, (1,), (1, 2), "rest", "ranges"]


def bad_kinds():
    """Return what is no kind of a table."""
    return strange() + [True, False, 0, 1, 2, ("rest",), ["rest"], ["ranges"], "range", "Rest", "rest ranges"]


def bad_integers(low, high):
    """Return what is no integer from low to high."""
    return no_integers() + [low - 1, high + 1, low - 10 ** 50, high + 10 ** 50, high + 10 ** 5000]


def paths_of(thing):
    """Return all paths into nested tuples, as tuples of indexes: () for the whole, and so on."""
    paths = [()]
    if isinstance(thing, tuple):
        for index, part in enumerate(thing):
            paths += [(index,) + path for path in paths_of(part)]
    return paths


def part_at(thing, path):
    """Return the part of nested tuples that a path leads to."""
    for index in path:
        thing = thing[index]
    return thing


def replaced(thing, path, part):
    """Return nested tuples with the part that the path leads to exchanged."""
    if not path:
        return part
    index, *rest = path
    return thing[:index] + (replaced(thing[index], rest, part),) + thing[index + 1:]


def bad_parts(part):
    """Return objects that may not stand in the place of a part, whatever else is there."""
    things = [thing for thing in strange() if not isinstance(thing, int)] + [10 ** 60, -10 ** 60, nested(90)]
    if isinstance(part, bool):
        return things + [0, 1, -1, int(part), str(part), (part,), [part]]
    if isinstance(part, int):
        return no_integers() + [-1, 5, 10 ** 60, 10 ** 5000, str(part), (part,), [part], bool(part)]
    if isinstance(part, str):
        things += ["asks", "quiet", "paced", part.upper(), part + " ", " " + part, part[:-1], part.encode()]
        return things + [True, False, 0, 1, (part,), [part], list(part), tuple(part)]
    things += [True, False, 0, 1, 2, list(part), dict(enumerate(part)), (part,), [part]]
    return things + [part + (None,), (None,) + part]


def spoiled(good):
    """Return the good object with each part, one at a time, exchanged for each bad one."""
    things = []
    for path in paths_of(good):
        things += [replaced(good, path, thing) for thing in bad_parts(part_at(good, path))]
    return things


def bad_houses(house):
    """Return what is no house, much of it near this one."""
    return strange() + no_integers() + [house[:3] + (house[3][0],)] + spoiled(house)[::7]


def bad_cases(case):
    """Return what is no case, much of it near this one."""
    return strange() + no_integers() + [case[:3] + ((case[3],), (2,), 2)] + spoiled(case)[::5]


def bad_schemes(scheme):
    """Return what is no scheme, much of it near this one."""
    return strange() + no_integers() + [0, 1] + spoiled(scheme)


def bad_plans(plan):
    """Return what is no plan, much of it near this one."""
    others = [(), ("open",), ("show",) * 3, plan + ("tell",) * 15, ("learn",), ("word",), " ".join(plan)]
    return strange() + no_integers() + [0, 1] + others + spoiled(plan)


def bad_questions(questions):
    """Return what is none of these questions."""
    others = [question for question in ALL_QUESTIONS if question not in questions]
    near = ["Order", "order ", "orders", "TWICE", b"lost", ("late",), ["stuck"], "lefts", "order, twice", "never", "run"]
    return strange() + no_integers() + [0, 1, 2] + others + near


def bad_steps():
    """Return what is no step of any house."""
    return strange() + no_integers() + [
        0, 1, 2, "word", "learn 0", ["word"], ["learn", 0], ["learn", 1], ("Word",), ("word ",), (b"word",), ("word", 0),
        ("word", ()), ("show",), ("learn",), ("learn", 0, 0), ("learn", -1), ("learn", 3), ("learn", "0"),
        ("learn", None), ("learn", (0,)), ("learn", [0]), ("learn", True), ("learn", False), ("hear", True),
        ("hear", False), ("send", 0), ("send", 0, 0, 0), ("send", False, 0), ("send", 0, False), ("send", True, 0),
        ("send", 0, -1), ("again", 0), ("again", 0, True), ("again", True, 0), ("again", 0, 3), ("arrive", 0),
        ("arrive", False, 0), ("arrive", 0, False), ("arrive", 0, True), ("arrive", 0, 0, 0), ("take",), ("take", True),
        ("take", False), ("take", 4), ("take", -1), ("take", 0, 0), ("note", True), ("note", False), ("hand", True),
        ("hand", False), (("word",),), ("word", Hostile()), (Hostile(), 0), ("take", 10 ** 5000), ("refuse", 0, 0),
        ("lost", 0, 0), ("late", 0, 0), (0, "word"), ("word", "word"), ("learn", range(0)), ("learn", {}),
    ]


def bad_runs():
    """Return what is no run of any house."""
    lists = [[step] for step in bad_steps()]
    return [thing for thing in strange() + no_integers() if type(thing) is not list] + [0, 1, (("word",),)] + lists


def steps_of(text):
    """Return the run that a text writes, as in "learn 0; send 0 0"."""
    parts = [step.split() for step in text.split(";") if step.strip()]
    return [(word, *map(int, numbers)) for word, *numbers in parts]
