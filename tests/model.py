"""A second reading of points 9 to 16 and 19, written for plainness alone, and random houses to try it on.

It keeps one record for each letter, tries every step that has the form of one, and shares no line with the program.
"""

import itertools

WORDS = ("show", "tell", "agree", "close", "clear", "drain", "copy", "open", "drop")
FLAGS = (True, False)


class Model:
    """A house under way, which changes by each step."""

    def __init__(self, house):
        (self.asks, self.paced, self.refused, self.notes, self.steady) = house[0]
        self.plan, self.counts, self.courses, self.letters, self.senders = house[1:]
        self.done = []
        self.held = [-1] * self.senders
        self.way = []
        self.back = {}
        self.lanes = [[] for _ in range(max(self.counts))]
        self.taken_by_readers = [0] * max(self.counts)
        self.hands = [None] * max(self.counts)
        self.sent = [0] * len(self.letters)
        self.taken = set()
        self.lost = set()

    # Point 10.

    def at_last(self, word):
        shown, found = 0, None
        for done in self.done:
            shown += done == "show"
            if done == word:
                found = shown
        return found

    @property
    def shown(self):
        return self.done.count("show")

    @property
    def told(self):
        return self.at_last("tell") or 0

    @property
    def closed(self):
        return self.at_last("close") or 0

    @property
    def opened(self):
        return self.at_last("open") or 0

    @property
    def drained(self):
        return self.at_last("drain") or 0

    @property
    def dropped(self):
        return -1 if self.at_last("drop") is None else self.at_last("drop") - 1

    @property
    def newest(self):
        return self.told if self.told > self.opened else self.opened

    def readable(self, lane):
        for edition, count in enumerate(self.counts):
            if self.dropped < edition <= self.opened and lane < count:
                return True
        return False

    def dead(self, lane):
        for edition, count in enumerate(self.counts):
            if edition > self.dropped and lane < count:
                return False
        return True

    # Points 11 to 14: what can be done.

    def can(self, step):
        return getattr(self, "can_" + step[0])(*step[1:])

    def can_word(self):
        if len(self.done) == len(self.plan):
            return False
        word = self.plan[len(self.done)]
        if word == "agree":
            return not any(0 <= edition < self.shown for edition in self.held)
        if word == "clear":
            return not any(letter["edition"] < self.shown for letter in self.way)
        if word == "drain":
            return not any(letter["edition"] < self.shown for lane in self.lanes for letter in lane)
        return True

    def can_learn(self, sender):
        held = self.held[sender]
        return held < self.newest and (held == -1 or self.asks or held < self.closed)

    def can_hear(self, sender):
        return self.held[sender] != -1 and self.held[sender] < self.told

    def can_send(self, sender, key):
        if self.sent[key] == self.letters[key] or self.held[sender] == -1:
            return False
        for number in range(self.sent[key]):
            if (key, number) in self.back:
                return False
            for letter in self.way:
                if letter["name"] == (key, number) and (self.paced or letter["sender"] != sender):
                    return False
        return True

    def can_again(self, key, number):
        if (key, number) not in self.back:
            return False
        letter = self.back[key, number]
        if any((key, earlier) in self.back for earlier in range(number)):
            return False
        return self.held[letter["sender"]] > letter["edition"]

    def under_way(self, key, number):
        return next((letter for letter in self.way if letter["name"] == (key, number)), None)

    def lane_of(self, letter):
        return self.courses[letter["name"][0]][letter["edition"]]

    def can_arrive(self, key, number):
        letter = self.under_way(key, number)
        if letter is None:
            return False
        for other in self.way:
            if other is letter:
                return True
            if other["sender"] == letter["sender"] and self.lane_of(other) == self.lane_of(letter):
                return False
        raise AssertionError("a letter under way is under way")

    def can_take(self, lane):
        if not self.readable(lane):
            return False
        if self.notes == "first":
            return self.hands[lane] is not None
        return self.taken_by_readers[lane] < len(self.lanes[lane])

    def can_note(self, lane):
        if not self.readable(lane) or self.notes == "with":
            return False
        if self.notes == "behind":
            return self.taken_by_readers[lane] > 0
        return self.hands[lane] is None and bool(self.lanes[lane])

    def can_hand(self, lane):
        if self.steady or not self.readable(lane) or self.notes == "with":
            return False
        return self.taken_by_readers[lane] > 0 if self.notes == "behind" else self.hands[lane] is not None

    def steps(self):
        """Return all steps that can be taken, ascending, found by trying all that have the form of one."""
        senders, keys = range(self.senders), range(len(self.letters))
        lanes, numbers = range(len(self.lanes)), range(3)
        forms = [("word",)]
        forms += itertools.product(("learn", "hear"), senders)
        forms += itertools.product(("send",), senders, keys)
        forms += itertools.product(("again", "arrive"), keys, numbers)
        forms += itertools.product(("take", "note", "hand"), lanes)
        return sorted(step for step in forms if self.can(step))

    # Points 11 to 16: what is done, and what it shows.

    def do(self, step):
        """Take a step; return its events and the set of the questions that it shows."""
        self.events, self.shows = [], set()
        getattr(self, "do_" + step[0])(*step[1:])
        return self.events, self.shows

    def lose(self, name):
        if name not in self.taken and name not in self.lost:
            self.lost.add(name)
            self.events.append(("lost",) + name)
            self.shows.add("lost")

    def do_word(self):
        word = self.plan[len(self.done)]
        self.done.append(word)
        if word == "copy":
            self.copy_all()
        elif word == "drop":
            self.drop_all()

    def copy_all(self):
        for name in itertools.product(range(len(self.letters)), range(3)):
            for number, lane in enumerate(self.lanes):
                for place, letter in enumerate(list(lane)):
                    target = self.courses[name[0]][self.shown]
                    if letter["name"] == name and letter["edition"] < self.shown and target != number:
                        lane.remove(letter)
                        if place < self.taken_by_readers[number]:
                            self.taken_by_readers[number] -= 1
                        letter["edition"] = self.shown
                        self.lanes[target].append(letter)

    def drop_all(self):
        names = []
        for lane in range(len(self.lanes)):
            if self.dead(lane):
                names += [letter["name"] for letter in self.lanes[lane]]
                names += [letter["name"] for letter in (self.hands[lane],) if letter is not None]
                self.lanes[lane], self.hands[lane], self.taken_by_readers[lane] = [], None, 0
        for name in sorted(names):
            self.lose(name)

    def do_learn(self, sender):
        self.held[sender] = self.newest

    def do_hear(self, sender):
        self.held[sender] = self.told

    def do_send(self, sender, key):
        self.way.append({"name": (key, self.sent[key]), "edition": self.held[sender], "sender": sender})
        self.sent[key] += 1

    def do_again(self, key, number):
        letter = self.back.pop((key, number))
        letter["edition"] = self.held[letter["sender"]]
        self.way.append(letter)

    def do_arrive(self, key, number):
        letter = self.under_way(key, number)
        self.way.remove(letter)
        if letter["edition"] < self.closed:
            self.events.append(("refuse", key, number))
            if self.refused == "back":
                self.back[key, number] = letter
            else:
                self.lose((key, number))
        elif self.dead(self.lane_of(letter)):
            self.lose((key, number))
        else:
            self.lanes[self.lane_of(letter)].append(letter)
            if letter["edition"] < self.drained:
                self.events.append(("late", key, number))
                self.shows.add("late")

    def do_take(self, lane):
        if self.notes == "first":
            letter, self.hands[lane] = self.hands[lane], None
        elif self.notes == "with":
            letter = self.lanes[lane].pop(0)
        else:
            letter = self.lanes[lane][self.taken_by_readers[lane]]
            self.taken_by_readers[lane] += 1
        key, number = letter["name"]
        self.events.append(("take", lane, key, number))
        if (key, number) in self.taken:
            self.shows.add("twice")
        for earlier in range(number):
            if (key, earlier) not in self.taken | self.lost:
                self.shows.add("order")
        self.taken.add((key, number))

    def do_note(self, lane):
        if self.notes == "first":
            self.hands[lane] = self.lanes[lane].pop(0)
        else:
            del self.lanes[lane][:self.taken_by_readers[lane]]
            self.taken_by_readers[lane] = 0

    def do_hand(self, lane):
        self.taken_by_readers[lane] = 0
        if self.notes == "first":
            letter, self.hands[lane] = self.hands[lane], None
            self.lose(letter["name"])

    # Point 9.

    def state(self):
        """Return the state as point 9 writes it."""
        def entry(letter):
            return (letter["sender"], letter["edition"]) + letter["name"]

        def in_lane(letter):
            return letter["name"] + (letter["edition"],)

        readers = tuple(self.taken_by_readers)
        if self.notes == "first":
            readers = tuple(() if letter is None else in_lane(letter) for letter in self.hands)
        return (
            len(self.done), tuple(self.held), tuple(map(entry, self.way)),
            tuple(entry(self.back[name]) for name in sorted(self.back)),
            tuple(tuple(map(in_lane, lane)) for lane in self.lanes), readers,
            tuple(self.sent), tuple(sorted(self.taken)), tuple(sorted(self.lost)),
        )


def loaded(house, state):
    """Return the model of a house in a state."""
    model = Model(house)
    place, held, way, back, lanes, readers, sent, taken, lost = state
    model.done, model.held, model.sent = list(model.plan[:place]), list(held), list(sent)
    model.way = [{"name": entry[2:], "edition": entry[1], "sender": entry[0]} for entry in way]
    model.back = {entry[2:]: {"name": entry[2:], "edition": entry[1], "sender": entry[0]} for entry in back}
    model.lanes = [[{"name": letter[:2], "edition": letter[2]} for letter in lane] for lane in lanes]
    if model.notes == "first":
        model.hands = [{"name": letter[:2], "edition": letter[2]} if letter else None for letter in readers]
    else:
        model.taken_by_readers = list(readers)
    model.taken, model.lost = set(taken), set(lost)
    return model


class Atlas:
    """All states of a case by the model: how far each is from the first, and its moves (step, state behind, shows)."""

    def __init__(self, case):
        scheme, plan, counts, course = case
        self.house = (scheme, plan, counts, (course,), (2,), 2)
        self.first = Model(self.house).state()
        self.depths, self.moves = {self.first: 0}, {}
        waiting = [self.first]
        while waiting:
            state = waiting.pop(0)
            self.moves[state] = []
            for step in loaded(self.house, state).steps():
                model = loaded(self.house, state)
                _, shows = model.do(step)
                behind = model.state()
                self.moves[state].append((step, behind, shows))
                if behind not in self.depths:
                    self.depths[behind] = self.depths[state] + 1
                    waiting.append(behind)

    def well(self, question, state):
        """Tell whether all words are done, or each letter that was sent is taken or lost."""
        if question == "stuck":
            return state[0] == len(self.house[1])
        return all((0, number) in state[7] + state[8] for number in range(state[6][0]))

    def ranks(self, question):
        """Return for each state the fewest steps to one that is well, None if there is none."""
        ranks = {state: 0 if self.well(question, state) else None for state in self.depths}
        changed = True
        while changed:
            changed = False
            for state, moves in self.moves.items():
                found = [ranks[behind] + 1 for _, behind, _ in moves if ranks[behind] is not None]
                if found and (ranks[state] is None or min(found) < ranks[state]):
                    ranks[state], changed = min(found), True
        return ranks

    def least(self, question):
        """Return how many steps the shortest runs have that show the question, None if no run shows it."""
        if question in ("stuck", "left"):
            found = [self.depths[state] for state, rank in self.ranks(question).items() if rank is None]
        else:
            found = [self.depths[state] + 1 for state, moves in self.moves.items() for _, _, shows in moves
                     if question in shows]
        return min(found, default=None)

    def entries(self, question):
        """Return what an answer tells if no run shows the question."""
        return sorted(self.ranks(question).items() if question in ("stuck", "left") else self.depths)


def replayed(house, run):
    """Return the model of a house behind a run, which it has to be able to take."""
    model = Model(house)
    for step in run:
        assert model.can(step), step
        model.do(step)
    return model


def random_scheme(random):
    """Return some scheme."""
    refused, notes = random.choice(("back", "lost")), random.choice(("behind", "first", "with"))
    return (random.choice(FLAGS), random.choice(FLAGS), refused, notes, random.choice(FLAGS))


def random_plan(random, most=15):
    """Return some plan of two to so many words, most of them behind its first show."""
    shows = random.choice((1, 2))
    plan = random.choices(WORDS[1:], k=random.randint(0, most - shows)) + ["show"] * (shows - 1)
    random.shuffle(plan)
    place = min(random.choice((0, 0, 0, 1, 2)), len(plan))
    return tuple(plan[:place] + ["show"] + plan[place:])


def random_frame(random, most=15):
    """Return some scheme, plan and counts."""
    plan = random_plan(random, most)
    return random_scheme(random), plan, tuple(random.randint(1, 4) for _ in range(plan.count("show") + 1))


def random_case(random, most=8):
    """Return some case with a plan of at most so many words."""
    scheme, plan, counts = random_frame(random, most)
    return (scheme, plan, counts, tuple(map(random.randrange, counts)))


def random_house(random, least=1):
    """Return some house with at least so many senders and letters of each key."""
    scheme, plan, counts = random_frame(random)
    keys = random.randint(1, 3)
    courses = tuple(tuple(map(random.randrange, counts)) for _ in range(keys))
    letters = tuple(random.randint(least, 3) for _ in range(keys))
    return (scheme, plan, counts, courses, letters, random.randint(least, 3))


def random_run(random, house, most):
    """Return some run of a house, of at most so many steps."""
    model, run = Model(house), []
    # Some runs do their words at once, others send and take much ahead of them.
    weights = {"word": random.choice((1, 3, 9)), "take": random.choice((1, 3)), "again": 5, "send": 3, "hear": 3}
    while len(run) < most and model.steps():
        steps = model.steps()
        step, = random.choices(steps, [weights.get(step[0], 2) for step in steps])
        run.append(step)
        model.do(step)
    return run
