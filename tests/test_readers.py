"""Point 14: readers that take letters, note how far they are, and hand lanes over, in each of the three ways."""

import unittest

from running import Running, built
from things import steps_of

from lanescounted.runs import possible_steps

TWO_IN = "learn 0; send 0 0; arrive 0 0; send 0 0; arrive 0 1; "
BOTH = ((0, 0, 0), (0, 1, 0))


class With(Running, unittest.TestCase):
    house = built("show", notes="with", steady=False)

    def test_the_first_letter_is_taken_and_goes_out(self):
        self.leaves(self.house, TWO_IN, lanes=(BOTH, ()), readers=(0, 0), taken=())
        self.leaves(self.house, TWO_IN + "take 0", lanes=(BOTH[1:], ()), readers=(0, 0), taken=((0, 0),))
        self.leaves(self.house, TWO_IN + "take 0; take 0", lanes=((), ()), readers=(0, 0), taken=((0, 0), (0, 1)))
        self.tells(self.house, TWO_IN + "take 0; take 0", ("take", 0, 0, 0), ("take", 0, 0, 1))

    def test_an_empty_lane_gives_none(self):
        self.cannot(self.house, "take 0")
        self.cannot(self.house, TWO_IN + "take 0; take 0; take 0")
        self.cannot(self.house, "learn 0; send 0 0; take 0")

    def test_nothing_is_noted_or_handed_over(self):
        for text in ("", TWO_IN, TWO_IN + "take 0; "):
            self.cannot(self.house, text + "note 0")
            self.cannot(self.house, text + "hand 0")


class Behind(Running, unittest.TestCase):
    house = built("show", notes="behind", steady=False)

    def test_letters_that_are_taken_stay_till_they_are_noted(self):
        self.leaves(self.house, TWO_IN, lanes=(BOTH, ()), readers=(0, 0))
        self.leaves(self.house, TWO_IN + "take 0", lanes=(BOTH, ()), readers=(1, 0), taken=((0, 0),))
        self.leaves(self.house, TWO_IN + "take 0; take 0", lanes=(BOTH, ()), readers=(2, 0), taken=((0, 0), (0, 1)))
        self.leaves(self.house, TWO_IN + "take 0; note 0", lanes=(BOTH[1:], ()), readers=(0, 0), taken=((0, 0),))
        self.leaves(self.house, TWO_IN + "take 0; take 0; note 0", lanes=((), ()), readers=(0, 0))
        self.leaves(self.house, TWO_IN + "take 0; note 0; take 0", lanes=(BOTH[1:], ()), readers=(1, 0))

    def test_only_one_that_is_not_taken_so_is_taken(self):
        self.cannot(self.house, "take 0")
        self.cannot(self.house, TWO_IN + "take 0; take 0; take 0")

    def test_note_and_hand_need_one_that_is_taken(self):
        for step in ("note 0", "hand 0"):
            self.cannot(self.house, step)
            self.cannot(self.house, TWO_IN + step)
            self.can(self.house, TWO_IN + "take 0; " + step)
            self.cannot(self.house, TWO_IN + "take 0; note 0; " + step)
            self.cannot(self.house, TWO_IN + "take 0; hand 0; " + step)

    def test_by_hand_the_letters_stay_and_are_taken_again(self):
        text = TWO_IN + "take 0; take 0; hand 0; "
        self.leaves(self.house, text, lanes=(BOTH, ()), readers=(0, 0), taken=((0, 0), (0, 1)), lost=())
        self.tells(self.house, TWO_IN + "take 0; hand 0; take 0", ("take", 0, 0, 0), ("take", 0, 0, 0))
        self.leaves(self.house, text + "take 0", readers=(1, 0), taken=((0, 0), (0, 1)))


class First(Running, unittest.TestCase):
    house = built("show", notes="first", steady=False)

    def test_a_letter_is_noted_into_the_hand_and_taken_from_there(self):
        self.leaves(self.house, TWO_IN, lanes=(BOTH, ()), readers=((), ()))
        self.leaves(self.house, TWO_IN + "note 0", lanes=(BOTH[1:], ()), readers=((0, 0, 0), ()), taken=(), lost=())
        self.leaves(self.house, TWO_IN + "note 0; take 0", lanes=(BOTH[1:], ()), readers=((), ()), taken=((0, 0),))
        self.tells(self.house, TWO_IN + "note 0; take 0; note 0; take 0", ("take", 0, 0, 0), ("take", 0, 0, 1))

    def test_note_needs_an_empty_hand_and_a_letter_in_the_lane(self):
        self.cannot(self.house, "note 0")
        self.can(self.house, TWO_IN + "note 0")
        self.cannot(self.house, TWO_IN + "note 0; note 0")
        self.can(self.house, TWO_IN + "note 0; take 0; note 0")
        self.can(self.house, TWO_IN + "note 0; hand 0; note 0")
        self.cannot(self.house, TWO_IN + "note 0; take 0; note 0; take 0; note 0")

    def test_take_and_hand_need_a_letter_in_the_hand(self):
        for step in ("take 0", "hand 0"):
            self.cannot(self.house, step)
            self.cannot(self.house, TWO_IN + step)
            self.can(self.house, TWO_IN + "note 0; " + step)
            self.cannot(self.house, TWO_IN + "note 0; take 0; " + step)
            self.cannot(self.house, TWO_IN + "note 0; hand 0; " + step)

    def test_by_hand_the_letter_becomes_lost(self):
        text = TWO_IN + "note 0; hand 0"
        self.leaves(self.house, text, lanes=(BOTH[1:], ()), readers=((), ()), taken=(), lost=((0, 0),))
        self.tells(self.house, text, ("lost", 0, 0))
        self.leaves(self.house, TWO_IN + "note 0; hand 0; note 0; take 0", taken=((0, 1),), lost=((0, 0),))

    def test_the_letter_keeps_its_edition(self):
        house = built("show tell open", notes="first")
        self.leaves(house, "word; word; word; learn 0; send 0 0; arrive 0 0; note 1", readers=((), (0, 0, 1)))


class AllWays(Running, unittest.TestCase):
    def test_if_steady_nothing_is_handed_over(self):
        self.cannot(built("show", notes="behind", steady=True), TWO_IN + "take 0; hand 0")
        self.can(built("show", notes="behind", steady=True), TWO_IN + "take 0; note 0")
        self.cannot(built("show", notes="first", steady=True), TWO_IN + "note 0; hand 0")
        self.can(built("show", notes="first", steady=True), TWO_IN + "note 0; take 0")

    def test_readers_do_nothing_with_a_lane_that_cannot_be_read(self):
        text = "word; word; learn 0; send 0 0; arrive 0 0; "
        for notes, step in (("with", "take 1"), ("behind", "take 1"), ("first", "note 1")):
            house = built("show tell open", notes=notes, steady=False)
            self.cannot(house, text + step)
            self.can(house, text + "word; " + step)

    def test_nor_with_one_that_cannot_be_read_any_more(self):
        counts, courses = (2, 1, 2), ((1, 0, 1),)
        for notes, step, others in (("behind", "take 1", ("note 1", "hand 1", "take 1")),
                                    ("first", "note 1", ("take 1", "hand 1"))):
            house = built("show drop show", counts, courses, notes=notes, steady=False)
            text = "learn 0; send 0 0; arrive 0 0; send 0 0; arrive 0 1; " + step + "; word; "
            for other in others:
                self.can(house, text + other)
                self.cannot(house, text + "word; " + other)

    def test_each_lane_has_a_reader_of_its_own(self):
        house = built("show", (2, 2), ((0, 0), (1, 1)), notes="first", steady=False)
        text = "learn 0; send 0 0; arrive 0 0; send 0 1; arrive 1 0; note 0; note 1; "
        self.leaves(house, text, readers=((0, 0, 0), (1, 0, 0)), lanes=((), ()))
        self.leaves(house, text + "take 1", readers=((0, 0, 0), ()), taken=((1, 0),))
        self.leaves(house, text + "take 1; take 0", readers=((), ()), taken=((0, 0), (1, 0)))
        house = built("show", (2, 2), ((0, 0), (1, 1)), notes="behind", steady=False)
        text = "learn 0; send 0 0; arrive 0 0; send 0 1; arrive 1 0; take 0; take 1; "
        self.leaves(house, text, readers=(1, 1))
        self.leaves(house, text + "note 1", readers=(1, 0), lanes=(((0, 0, 0),), ()))
        self.leaves(house, text + "hand 0", readers=(0, 1), lanes=(((0, 0, 0),), ((1, 0, 0),)))

    def test_there_are_as_many_lanes_as_the_greatest_count(self):
        for notes in ("with", "behind", "first"):
            for counts in ((1, 1), (1, 4), (4, 1), (2, 3)):
                house = built("show", counts, ((0, 0),), notes=notes)
                self.leaves(house, "", lanes=((),) * max(counts), readers=(() if notes == "first" else 0,) * max(counts))

    def test_a_letter_that_is_taken_twice_stands_in_taken_once(self):
        house = built("show", notes="behind", steady=False)
        self.leaves(house, TWO_IN + "take 0; take 0; hand 0; take 0; take 0; note 0", taken=((0, 0), (0, 1)))

    def test_taken_ascends(self):
        house = built("show", (2, 2), ((0, 0), (1, 1)))
        text = "learn 0; send 0 0; arrive 0 0; send 0 1; arrive 1 0; take 1; take 0"
        self.leaves(house, text, taken=((0, 0), (1, 0)))
        self.tells(house, text, ("take", 1, 1, 0), ("take", 0, 0, 0))

    def test_the_steps_of_readers_ascend_among_the_others(self):
        house = built("show tell", (2, 2), ((0, 0), (1, 1)), notes="behind", steady=False, asks=True, letters=(3, 3))
        text = "learn 0; send 0 0; arrive 0 0; send 0 1; arrive 1 0; send 0 0; arrive 0 1; take 0; take 1; word; word"
        self.assertEqual(possible_steps(house, steps_of(text)), [
            ("hand", 0), ("hand", 1), ("hear", 0), ("learn", 0), ("learn", 1), ("note", 0), ("note", 1),
            ("send", 0, 0), ("send", 0, 1), ("take", 0),
        ])


if __name__ == "__main__":
    unittest.main()
