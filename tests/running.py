"""What the tests of runs share: houses built in a line, and tests of one step behind a run."""

from things import steps_of

from lanescounted.errors import BadStep
from lanescounted.runs import events_of, possible_steps, state_after

PARTS = ("place", "held", "way", "back", "lanes", "readers", "sent", "taken", "lost")


def built(plan, counts=(1, 2), courses=((0, 1),), letters=None, senders=2, **scheme):
    """Return a house: by default of one key with two letters, two senders and the scheme of the document's example."""
    parts = {"asks": False, "paced": True, "refused": "back", "notes": "with", "steady": True, **scheme}
    assert len(parts) == 5
    numbers = (2,) * len(courses) if letters is None else letters
    return (tuple(parts.values()), tuple(plan.split()), counts, courses, numbers, senders)


class Running:
    """Tests of the step that stands last in a text, and of what the run leaves and tells."""

    def can(self, house, text):
        *run, step = steps_of(text)
        self.assertIn(step, possible_steps(house, run), text)
        state_after(house, run + [step])

    def cannot(self, house, text):
        *run, step = steps_of(text)
        self.assertNotIn(step, possible_steps(house, run), text)
        for function in (state_after, events_of, possible_steps):
            with self.assertRaises(BadStep) as caught:
                function(house, run + [step])
            self.assertEqual(caught.exception.place, len(run))

    def leaves(self, house, text, **parts):
        state = dict(zip(PARTS, state_after(house, steps_of(text)), strict=True))
        for name, part in parts.items():
            self.assertEqual(state[name], part, (name, text))

    def tells(self, house, text, *events):
        self.assertEqual(events_of(house, steps_of(text)), list(events), text)
