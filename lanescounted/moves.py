"""Moves: the first state of a house, and the steps that can be taken in a state."""

from lanescounted.checks import is_plain


def first_state(frame):
    """Return the state in which nothing was done [9]."""
    lanes = max(frame.counts)
    held = (-1,) * frame.senders
    return (0, held, (), (), ((),) * lanes, (frame.idle,) * lanes, (0,) * len(frame.letters), (), ())


def can_take(frame, state, thing):
    """Tell whether any object is a step that can be taken in the state."""
    return is_plain(thing, 1) and thing in steps_in(frame, state)


def steps_in(frame, state):
    """Return the list, ascending, of the steps that can be taken in the state [11] to [14]."""
    place, held, way, back, lanes, readers, sent, _, _ = state
    moment = frame.moments[place]
    # The words of the steps stand in the order of their letters, so the whole is ascending if each part is.
    return [
        *again_steps(held, back),
        *arrive_steps(frame, way),
        *hand_steps(frame, moment, readers),
        *[("hear", sender) for sender, edition in enumerate(held) if 0 <= edition < moment.told],
        *[("learn", sender) for sender, edition in enumerate(held) if may_learn(frame, moment, edition)],
        *note_steps(frame, moment, lanes, readers),
        *send_steps(frame, held, way, back, sent),
        *take_steps(frame, moment, lanes, readers),
        *word_steps(frame, moment, state),
    ]


def again_steps(held, back):
    """Return the steps by which a letter that is back is sent again [12]."""
    steps = []
    blocked = -1
    for sender, edition, key, number in back:
        # The entries ascend, so the first one of a key stands ahead of its others and blocks them.
        if key != blocked and held[sender] > edition:
            steps.append(("again", key, number))
        blocked = key
    return steps


def arrive_steps(frame, way):
    """Return the steps by which a letter arrives [13]."""
    steps = []
    ahead = []
    for sender, edition, key, number in way:
        path = (sender, frame.courses[key][edition])
        if path not in ahead:
            steps.append(("arrive", key, number))
        ahead.append(path)
    return sorted(steps)


def may_learn(frame, moment, edition):
    """Tell whether a sender that holds this edition can learn [12]."""
    return edition < moment.newest and (edition < 0 or frame.asks or edition < moment.closed)


def send_steps(frame, held, way, back, sent):
    """Return the steps by which the next letter of a key is sent [12]."""
    barred = [key for _, _, key, _ in back]
    if frame.paced:
        barred.extend([key for _, _, key, _ in way])
    keys = [key for key, number in enumerate(sent) if number < frame.letters[key] and key not in barred]
    # What is under way, or back, was sent before the next letter, so it is earlier.
    return [
        ("send", sender, key) for sender, edition in enumerate(held) if edition >= 0 for key in keys
        if not any([other != sender and theirs == key for other, _, theirs, _ in way])
    ]


def hand_steps(frame, moment, readers):
    """Return the steps by which a lane is handed over [14]."""
    if frame.steady or frame.notes == "with":
        return []
    return [("hand", lane) for lane in moment.readable if readers[lane] != frame.idle]


def note_steps(frame, moment, lanes, readers):
    """Return the steps by which a reader notes how far it is [14]."""
    if frame.notes == "behind":
        return [("note", lane) for lane in moment.readable if readers[lane] != 0]
    if frame.notes == "first":
        return [("note", lane) for lane in moment.readable if readers[lane] == () and lanes[lane] != ()]
    return []


def take_steps(frame, moment, lanes, readers):
    """Return the steps by which a reader takes a letter [14]."""
    if frame.notes == "first":
        return [("take", lane) for lane in moment.readable if readers[lane] != ()]
    # By "with" the integer is always 0.
    return [("take", lane) for lane in moment.readable if readers[lane] < len(lanes[lane])]


def word_steps(frame, moment, state):
    """Return the step that does the next word of the plan, if that can be done [11]."""
    place, *_ = state
    if place < len(frame.plan) and can_do(moment, state, frame.plan[place]):
        return [("word",)]
    return []


def can_do(moment, state, word):
    """Tell whether a word of a plan can be done in the state, behind the words that have set the moment [11]."""
    _, held, way, _, lanes, _, _, _, _ = state
    editions = []
    if word == "agree":
        editions = [edition for edition in held if edition >= 0]
    elif word == "clear":
        editions = [edition for _, edition, _, _ in way]
    elif word == "drain":
        editions = [edition for letters in lanes for _, _, edition in letters]
    return min(editions, default=moment.shown) >= moment.shown
