"""Effects: the state behind a step, and the events of the step."""


def after_step(frame, state, step):
    """Return the state behind a step that can be taken, and the list of the events of this step [11] to [15]."""
    word, *numbers = step
    effect = EFFECTS[word]
    return effect(frame, state, *numbers)


def after_word(frame, state):
    """Do the next word of the plan [11]."""
    place, *rest = state
    moved = (place + 1, *rest)
    if frame.plan[place] == "copy":
        return after_copy(frame, moved), []
    if frame.plan[place] == "drop":
        return after_drop(frame, moved)
    return moved, []


def after_copy(frame, state):
    """Return the state in which the letters of elder editions are moved to their lanes by the one shown [11]."""
    place, held, way, back, lanes, readers, sent, taken, lost = state
    shown = frame.moments[place].shown
    moved = [
        [letter for letter in letters if is_moved(frame, shown, lane, letter)] for lane, letters in enumerate(lanes)
    ]
    full = [[letter for letter in letters if letter not in out] for letters, out in zip(lanes, moved)]
    for key, number, _ in sorted([letter for out in moved for letter in out]):
        full[frame.courses[key][shown]].append((key, number, shown))
    if frame.notes == "behind":
        readers = tuple([
            many - len([letter for letter in letters[:many] if letter in out])
            for many, letters, out in zip(readers, lanes, moved)
        ])
    return (place, held, way, back, tuple([tuple(letters) for letters in full]), readers, sent, taken, lost)


def is_moved(frame, shown, lane, letter):
    """Tell whether a copy moves a letter that is in this lane."""
    key, _, edition = letter
    return edition < shown and frame.courses[key][shown] != lane


def after_drop(frame, state):
    """Return the state in which the dead lanes and the hands of their readers are empty, and the events [11]."""
    place, held, way, back, lanes, readers, sent, taken, lost = state
    dead = frame.moments[place].dead
    out = [letter for lane in dead for letter in lanes[lane]]
    if frame.notes == "first":
        out.extend([readers[lane] for lane in dead if readers[lane] != ()])
    lanes = tuple([() if lane in dead else letters for lane, letters in enumerate(lanes)])
    readers = tuple([frame.idle if lane in dead else reader for lane, reader in enumerate(readers)])
    gone = sorted([(key, number) for key, number, _ in out if (key, number) not in taken])
    events = [("lost", key, number) for key, number in gone]
    return (place, held, way, back, lanes, readers, sent, taken, tuple(sorted([*lost, *gone]))), events


def after_learn(frame, state, sender):
    """Let a sender hold the newest edition [12]."""
    place, held, *rest = state
    return (place, exchanged(held, sender, frame.moments[place].newest), *rest), []


def after_hear(frame, state, sender):
    """Let a sender hold the edition that was told [12]."""
    place, held, *rest = state
    return (place, exchanged(held, sender, frame.moments[place].told), *rest), []


def after_send(frame, state, sender, key):
    """Put the next letter of the key under way [12]."""
    place, held, way, back, lanes, readers, sent, taken, lost = state
    way = (*way, (sender, held[sender], key, sent[key]))
    return (place, held, way, back, lanes, readers, exchanged(sent, key, sent[key] + 1), taken, lost), []


def after_again(frame, state, key, number):
    """Put a letter that is back under way again [12]."""
    place, held, way, back, *rest = state
    at = index_of(back, key, number)
    sender = back[at][0]
    way = (*way, (sender, held[sender], key, number))
    return (place, held, way, without(back, at), *rest), []


def after_arrive(frame, state, key, number):
    """Let a letter that is under way arrive [13]."""
    place, held, way, back, lanes, readers, sent, taken, lost = state
    moment = frame.moments[place]
    at = index_of(way, key, number)
    entry = way[at]
    way = without(way, at)
    edition = entry[1]
    lane = frame.courses[key][edition]
    events = []
    if edition < moment.closed:
        events.append(("refuse", key, number))
    if edition < moment.closed and frame.refused == "back":
        back = tuple(sorted([*back, entry], key=lambda row: (row[2], row[3])))
    elif edition < moment.closed or lane in moment.dead:
        events.append(("lost", key, number))
        lost = with_letter(lost, key, number)
    else:
        lanes = exchanged(lanes, lane, (*lanes[lane], (key, number, edition)))
        if edition < moment.drained:
            events.append(("late", key, number))
    return (place, held, way, back, lanes, readers, sent, taken, lost), events


def after_take(frame, state, lane):
    """Let the reader of a lane take a letter [14]."""
    place, held, way, back, lanes, readers, sent, taken, lost = state
    key, number, _ = next_taken(frame, state, lane)
    if frame.notes == "behind":
        readers = exchanged(readers, lane, readers[lane] + 1)
    elif frame.notes == "with":
        lanes = exchanged(lanes, lane, lanes[lane][1:])
    else:
        readers = exchanged(readers, lane, ())
    taken = with_letter(taken, key, number)
    return (place, held, way, back, lanes, readers, sent, taken, lost), [("take", lane, key, number)]


def after_note(frame, state, lane):
    """Let the reader of a lane note how far it is [14]."""
    place, held, way, back, lanes, readers, *rest = state
    if frame.notes == "behind":
        left, reader = lanes[lane][readers[lane]:], 0
    else:
        left, reader = lanes[lane][1:], lanes[lane][0]
    return (place, held, way, back, exchanged(lanes, lane, left), exchanged(readers, lane, reader), *rest), []


def after_hand(frame, state, lane):
    """Hand a lane over to another reader, which knows only what was noted [14]."""
    place, held, way, back, lanes, readers, sent, taken, lost = state
    events = []
    if frame.notes == "first":
        key, number, _ = readers[lane]
        if (key, number) not in taken:
            events.append(("lost", key, number))
            lost = with_letter(lost, key, number)
    return (place, held, way, back, lanes, exchanged(readers, lane, frame.idle), sent, taken, lost), events


def next_taken(frame, state, lane):
    """Return the letter that the reader of a lane takes next, for a lane of which one can be taken."""
    _, _, _, _, lanes, readers, _, _, _ = state
    return readers[lane] if frame.notes == "first" else lanes[lane][readers[lane]]


def with_letter(letters, key, number):
    """Return ascending letters with one more, unless it is there."""
    return letters if (key, number) in letters else tuple(sorted([*letters, (key, number)]))


def index_of(entries, key, number):
    """Return where a letter stands among the entries of way or back."""
    return [entry[2:] for entry in entries].index((key, number))


def exchanged(row, at, entry):
    """Return a tuple with one entry exchanged."""
    return (*row[:at], entry, *row[at + 1:])


def without(row, at):
    """Return a tuple without one of its entries."""
    return row[:at] + row[at + 1:]


EFFECTS = {
    "word": after_word, "learn": after_learn, "hear": after_hear, "send": after_send, "again": after_again,
    "arrive": after_arrive, "take": after_take, "note": after_note, "hand": after_hand,
}
