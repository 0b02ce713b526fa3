"""Points 10 and 11: what the words of a plan set, and what doing them needs and changes."""

import unittest

from running import Running, built
from things import steps_of

from lanescounted.runs import events_of, state_after

# A letter of edition 0 is in lane 0.
ONE_IN = "learn 0; send 0 0; arrive 0 0; "


class PlainWords(Running, unittest.TestCase):
    def test_show_tell_close_and_open_change_the_place_alone(self):
        for word in ("show", "tell", "close", "open"):
            house = built(f"{word} show", (1, 2, 1), ((0, 1, 0),)) if word == "show" else built(f"{word} show")
            for before in ("", "learn 0; ", ONE_IN, ONE_IN + "learn 1; send 1 0; ", ONE_IN + "take 0; "):
                state = state_after(house, steps_of(before))
                self.assertEqual(state_after(house, steps_of(before + "word")), (1,) + state[1:])
                self.assertEqual(events_of(house, steps_of(before + "word")), events_of(house, steps_of(before)))

    def test_a_wait_changes_the_place_alone(self):
        for word in ("agree", "clear", "drain"):
            house = built(f"show {word}")
            self.assertEqual(state_after(house, steps_of("word; word")), (2,) + state_after(house, [])[1:])

    def test_there_is_no_word_behind_the_last(self):
        self.can(built("show"), "word")
        self.cannot(built("show"), "word; word")
        self.cannot(built("show tell show", (1, 1, 1), ((0, 0, 0),)), "word; word; word; word")

    def test_the_words_are_done_in_their_order(self):
        house = built("tell show open close")
        for number in range(5):
            self.leaves(house, "word; " * number, place=number)


class Agree(Running, unittest.TestCase):
    def test_nobody_holds_an_elder_edition(self):
        self.can(built("show agree"), "word; word")
        self.cannot(built("show agree"), "learn 0; word; word")
        self.cannot(built("show agree"), "word; learn 1; word")

    def test_ahead_of_all_shows_no_edition_is_elder(self):
        self.can(built("agree show"), "learn 0; word")

    def test_the_edition_that_is_shown_is_not_elder(self):
        self.can(built("show tell agree"), "word; word; learn 0; word")
        self.can(built("show tell agree"), "learn 0; word; word; hear 0; word")
        self.cannot(built("show tell agree"), "learn 0; word; word; word")
        self.cannot(built("show tell agree"), "learn 0; learn 1; word; word; hear 0; word")

    def test_behind_a_second_show(self):
        house = built("show tell show agree", (1, 2, 1), ((0, 1, 0),))
        self.cannot(house, "word; word; learn 0; word; word")
        self.can(house, "word; word; word; word")

    def test_letters_do_not_count(self):
        self.can(built("show tell agree"), "learn 0; send 0 0; word; word; hear 0; word")


class Clear(Running, unittest.TestCase):
    def test_no_elder_letter_is_under_way(self):
        self.can(built("show clear"), "learn 0; word; word")
        self.cannot(built("show clear"), "learn 0; send 0 0; word; word")
        self.can(built("show clear"), ONE_IN + "word; word")

    def test_ahead_of_all_shows_no_letter_is_elder(self):
        self.can(built("clear show"), "learn 0; send 0 0; word")

    def test_the_edition_that_is_shown_is_not_elder(self):
        self.can(built("show tell clear"), "word; word; learn 0; send 0 0; word")
        self.cannot(built("show tell clear"), "learn 0; send 0 0; word; word; hear 0; word")

    def test_any_letter_under_way_counts(self):
        house = built("show tell clear", courses=((0, 1), (0, 1)))
        self.cannot(house, "learn 0; learn 1; send 0 0; word; word; hear 1; send 1 1; word")
        self.cannot(house, "learn 0; word; word; learn 1; send 1 1; send 0 0; word")

    def test_a_letter_that_is_back_is_not_under_way(self):
        self.can(built("show close clear"), "learn 0; send 0 0; word; word; arrive 0 0; word")


class Drain(Running, unittest.TestCase):
    def test_no_elder_letter_is_in_a_lane(self):
        self.can(built("show drain"), "word; word")
        self.cannot(built("show drain"), ONE_IN + "word; word")
        self.can(built("show drain"), ONE_IN + "word; take 0; word")

    def test_ahead_of_all_shows_no_letter_is_elder(self):
        self.can(built("drain show"), ONE_IN + "word")

    def test_letters_under_way_and_back_are_in_no_lane(self):
        self.can(built("show drain"), "learn 0; send 0 0; word; word")
        self.can(built("show close drain"), "learn 0; send 0 0; word; word; arrive 0 0; word")

    def test_a_letter_that_is_not_noted_is_in_its_lane(self):
        house = built("show drain", notes="behind")
        self.cannot(house, ONE_IN + "take 0; word; word")
        self.can(house, ONE_IN + "take 0; note 0; word; word")

    def test_a_letter_in_a_hand_is_not_in_its_lane(self):
        house = built("show drain", notes="first")
        self.cannot(house, ONE_IN + "word; word")
        self.can(house, ONE_IN + "note 0; word; word")

    def test_the_edition_that_is_shown_is_not_elder(self):
        self.can(built("show tell drain"), "word; word; learn 0; send 0 0; arrive 0 0; word")
        house = built("show tell drain", courses=((0, 1), (0, 1)))
        self.cannot(house, "learn 0; send 0 1; arrive 1 0; word; word; hear 0; send 0 0; arrive 0 0; word")


class Copy(Running, unittest.TestCase):
    def test_letters_are_moved_with_the_edition_shown(self):
        text = ONE_IN + "send 0 0; arrive 0 1; word; "
        self.leaves(built("show copy"), text, lanes=(((0, 0, 0), (0, 1, 0)), ()))
        self.leaves(built("show copy"), text + "word", lanes=((), ((0, 0, 1), (0, 1, 1))), taken=(), lost=())
        self.tells(built("show copy"), text + "word")

    def test_letters_that_have_the_same_lane_stay_as_they_are(self):
        house = built("show copy", courses=((0, 0), (0, 1)))
        self.leaves(house, ONE_IN + "send 0 1; arrive 1 0; word; word", lanes=(((0, 0, 0),), ((1, 0, 1),)))

    def test_they_come_behind_all_letters_that_are_there(self):
        text = ONE_IN + "word; word; hear 0; send 0 0; arrive 0 1; word"
        self.leaves(built("show tell copy"), text, lanes=((), ((0, 1, 1), (0, 0, 1))))

    def test_they_come_ascending_by_key_and_number(self):
        house = built("show copy", courses=((0, 1), (0, 1)), paced=False)
        text = "learn 0; send 0 1; arrive 1 0; send 0 0; arrive 0 0; send 0 1; arrive 1 1; send 0 0; arrive 0 1; "
        self.leaves(house, text + "word", lanes=(((1, 0, 0), (0, 0, 0), (1, 1, 0), (0, 1, 0)), ()))
        self.leaves(house, text + "word; word", lanes=((), ((0, 0, 1), (0, 1, 1), (1, 0, 1), (1, 1, 1))))

    def test_they_come_so_from_several_lanes(self):
        house = built("show copy", (2, 3), ((1, 2), (0, 2)))
        text = "learn 0; send 0 1; arrive 1 0; send 0 0; arrive 0 0; word; word"
        self.leaves(house, text, lanes=((), (), ((0, 0, 1), (1, 0, 1))))

    def test_two_lanes_can_be_exchanged(self):
        house = built("show copy", (2, 2), ((0, 1), (1, 0)))
        text = "learn 0; send 0 1; arrive 1 0; send 0 0; arrive 0 0; word; word"
        self.leaves(house, text, lanes=(((1, 0, 1),), ((0, 0, 1),)))

    def test_a_letter_that_comes_goes_behind_one_that_stays(self):
        house = built("show copy", (2, 2), ((1, 0), (0, 0)))
        text = "learn 0; send 0 0; arrive 0 0; send 0 1; arrive 1 0; word; word"
        self.leaves(house, text, lanes=(((1, 0, 0), (0, 0, 1)), ()))

    def test_letters_of_the_edition_shown_stay(self):
        house = built("show tell copy", (2, 2), ((0, 1),))
        self.leaves(house, "word; word; learn 0; send 0 0; arrive 0 0; word", lanes=((), ((0, 0, 1),)))

    def test_ahead_of_all_shows_nothing_is_moved(self):
        self.leaves(built("copy show"), ONE_IN + "word", lanes=(((0, 0, 0),), ()))

    def test_an_edition_is_passed_over(self):
        house = built("show show copy", (1, 2, 3), ((0, 1, 2),))
        self.leaves(house, ONE_IN + "word; word; word", lanes=((), (), ((0, 0, 2),)))

    def test_letters_that_are_in_no_lane_stay(self):
        house = built("show close copy", notes="first", paced=False)
        text = ONE_IN + "note 0; send 0 0; word; word; "
        self.leaves(house, text + "word", way=((0, 0, 0, 1),), readers=((0, 0, 0), ()), lanes=((), ()))
        self.leaves(house, text + "arrive 0 1; word", way=(), back=((0, 0, 0, 1),), lanes=((), ()))

    def test_the_integer_is_lowered_by_the_first_letters_that_are_moved(self):
        house = built("show copy", courses=((0, 1), (0, 0)), notes="behind")
        text = ONE_IN + "send 0 1; arrive 1 0; send 0 0; arrive 0 1; "
        full, moved = (((0, 0, 0), (1, 0, 0), (0, 1, 0)), ()), (((1, 0, 0),), ((0, 0, 1), (0, 1, 1)))
        for takes, before, after in ((0, 0, 0), (1, 1, 0), (2, 2, 1), (3, 3, 1)):
            taking = text + "take 0; " * takes + "word; "
            self.leaves(house, taking, lanes=full, readers=(before, 0))
            self.leaves(house, taking + "word", lanes=moved, readers=(after, 0))

    def test_a_letter_that_was_taken_and_is_moved_is_taken_again(self):
        house = built("show copy open", notes="behind")
        text = ONE_IN + "take 0; word; word; word; take 1"
        self.tells(house, text, ("take", 0, 0, 0), ("take", 1, 0, 0))
        self.leaves(house, text, taken=((0, 0),), readers=(0, 1))


class Drop(Running, unittest.TestCase):
    def test_letters_in_dead_lanes_become_lost(self):
        house = built("show drop", (2, 1), ((1, 0),))
        text = "learn 0; send 0 0; arrive 0 0; word; word"
        self.leaves(house, text, lanes=((), ()), lost=((0, 0),), taken=())
        self.tells(house, text, ("lost", 0, 0))

    def test_letters_elsewhere_stay(self):
        house = built("show drop", (2, 1), ((0, 0),))
        self.leaves(house, ONE_IN + "word; word", lanes=(((0, 0, 0),), ()), lost=())
        house = built("show drop", (2, 1), ((1, 0),))
        self.leaves(house, "learn 0; send 0 0; word; word", way=((0, 0, 0, 0),), lost=())

    def test_they_become_lost_ascending_by_key_and_number(self):
        house = built("show drop", (3, 1), ((2, 0), (1, 0)), paced=False)
        text = "learn 0; send 0 1; arrive 1 0; send 0 1; arrive 1 1; send 0 0; arrive 0 0; word; word"
        self.tells(house, text, ("lost", 0, 0), ("lost", 1, 0), ("lost", 1, 1))
        self.leaves(house, text, lost=((0, 0), (1, 0), (1, 1)), lanes=((), (), ()))
        house = built("show drop", (2, 1), ((1, 0), (1, 0)), notes="first")
        text = "learn 0; send 0 1; arrive 1 0; note 1; send 0 0; arrive 0 0; word; word"
        self.tells(house, text, ("lost", 0, 0), ("lost", 1, 0))

    def test_those_that_were_taken_do_not(self):
        house = built("show drop", (2, 1), ((1, 0),), notes="behind")
        text = "learn 0; send 0 0; arrive 0 0; send 0 0; arrive 0 1; take 1; word; word"
        self.leaves(house, text, lanes=((), ()), readers=(0, 0), taken=((0, 0),), lost=((0, 1),))
        self.tells(house, text, ("take", 1, 0, 0), ("lost", 0, 1))

    def test_those_that_were_taken_elsewhere_do_not(self):
        house = built("show copy show drop", (1, 2, 1), ((0, 1, 0),), notes="behind")
        text = ONE_IN + "take 0; word; word; "
        self.leaves(house, text, lanes=((), ((0, 0, 1),)), readers=(0, 0))
        self.leaves(house, text + "word; word", lanes=((), ()), taken=((0, 0),), lost=())
        self.tells(house, text + "word; word", ("take", 0, 0, 0))

    def test_those_that_were_taken_and_handed_over_do_not(self):
        house = built("show drop", (2, 1), ((1, 0),), notes="behind", steady=False)
        text = "learn 0; send 0 0; arrive 0 0; take 1; hand 1; word; word"
        self.leaves(house, text, lanes=((), ()), taken=((0, 0),), lost=())

    def test_the_hands_of_readers_of_dead_lanes_are_emptied(self):
        house = built("show drop", (2, 1), ((1, 0), (0, 0)), notes="first")
        text = "learn 0; send 0 0; arrive 0 0; note 1; send 0 1; arrive 1 0; note 0; word; "
        self.leaves(house, text, readers=((1, 0, 0), (0, 0, 0)))
        self.leaves(house, text + "word", readers=((1, 0, 0), ()), lost=((0, 0),), taken=())
        self.tells(house, text + "word", ("lost", 0, 0))

    def test_a_lane_that_a_later_edition_serves_is_not_dead(self):
        house = built("show drop show", (2, 1, 2), ((1, 0, 1),))
        text = "learn 0; send 0 0; arrive 0 0; word; word"
        self.leaves(house, text, lanes=((), ((0, 0, 0),)), lost=())

    def test_ahead_of_all_shows_no_lane_is_dead(self):
        house = built("drop show", (2, 1), ((1, 0),))
        text = "learn 0; send 0 0; arrive 0 0; word"
        self.leaves(house, text, lanes=((), ((0, 0, 0),)), lost=())
        self.can(house, text + "; take 1")

    def test_a_second_drop_goes_by_what_is_shown_then(self):
        house = built("show drop show drop", (3, 2, 1), ((0, 1, 0),), asks=True)
        text = "learn 0; send 0 0; word; word; word; word"
        self.leaves(house, text + "; arrive 0 0", lanes=(((0, 0, 0),), (), ()))
        house = built("show tell drop show drop", (3, 2, 1), ((2, 1, 0),))
        text = "word; word; word; learn 0; send 0 0; arrive 0 0; word; "
        self.leaves(house, text, lanes=((), ((0, 0, 1),), ()))
        self.leaves(house, text + "word", lanes=((), (), ()), lost=((0, 0),))

    def test_what_is_shown_behind_a_drop_drops_nothing_more(self):
        house = built("show tell drop show open", (1, 2, 1), ((0, 1, 0),))
        text = "word; word; word; learn 0; send 0 0; arrive 0 0; word; word; "
        self.leaves(house, text, lanes=((), ((0, 0, 1),)), lost=())
        self.can(house, text + "take 1")


class WhatTheWordsSet(Running, unittest.TestCase):
    def test_told_is_what_was_shown_at_the_last_tell(self):
        for plan, told in (("tell show", 0), ("show tell", 1), ("show tell show", 1), ("show tell show tell", 2),
                           ("tell show show tell tell", 2), ("show show", 0)):
            many = plan.count("show")
            house = built(plan, (1, 2, 3)[:many + 1], ((0, 1, 2)[:many + 1],))
            words = "word; " * len(plan.split())
            self.leaves(house, words + "learn 0", held=(told, -1))
            if told:
                self.leaves(house, "learn 0; " + words + "hear 0", held=(told, -1))
            else:
                self.cannot(house, "learn 0; " + words + "hear 0")

    def test_newest_is_the_greater_of_told_and_opened(self):
        for plan, newest in (("show open", 1), ("show open show", 1), ("show open show tell", 2), ("open show", 0),
                             ("show tell show open", 2), ("show show open", 2), ("show close drain copy drop", 0)):
            many = plan.count("show")
            house = built(plan, (1, 2, 3)[:many + 1], ((0, 1, 2)[:many + 1],))
            self.leaves(house, "word; " * len(plan.split()) + "learn 1", held=(-1, newest))

    def test_closed_is_what_was_shown_at_the_last_close(self):
        for plan, closed in (("close show", 0), ("show close", 1), ("show close show", 1), ("show close show close", 2)):
            many = plan.count("show")
            house = built(plan + " tell", (1, 2, 3)[:many + 1], ((0, 1, 2)[:many + 1],), asks=True)
            text = "learn 0; send 0 0; " + "word; " * len(plan.split()) + "arrive 0 0"
            self.leaves(house, text, back=((0, 0, 0, 0),) if closed else ())
        house = built("show tell show close", (1, 2, 3), ((0, 1, 2),))
        self.tells(house, "word; word; learn 0; send 0 0; word; word; arrive 0 0", ("refuse", 0, 0))
        house = built("show tell close show", (1, 2, 3), ((0, 1, 2),))
        self.tells(house, "word; word; learn 0; send 0 0; word; word; arrive 0 0")

    def test_drained_is_what_was_shown_at_the_last_drain(self):
        for plan, late in (("drain show", False), ("show drain", True), ("show drain show", True), ("show open", False)):
            many = plan.count("show")
            house = built(plan, (1, 2, 3)[:many + 1], ((0, 1, 2)[:many + 1],))
            text = "learn 0; send 0 0; " + "word; " * len(plan.split()) + "arrive 0 0"
            self.tells(house, text, *[("late", 0, 0)] * late)
        house = built("show tell show drain", (1, 2, 3), ((0, 1, 2),))
        self.tells(house, "word; word; learn 0; send 0 0; word; word; arrive 0 0", ("late", 0, 0))
        house = built("show tell drain show", (1, 2, 3), ((0, 1, 2),))
        self.tells(house, "word; word; learn 0; send 0 0; word; word; arrive 0 0")

    def test_a_lane_can_be_read_by_the_editions_that_are_opened(self):
        house = built("show tell open")
        text = "word; word; learn 0; send 0 0; arrive 0 0; "
        self.cannot(house, text + "take 1")
        self.can(house, text + "word; take 1")
        self.can(house, ONE_IN + "take 0")

    def test_an_opened_edition_does_not_go_away_by_a_show(self):
        house = built("show tell open show", (1, 2, 1), ((0, 1, 0),))
        self.can(house, "word; word; learn 0; send 0 0; arrive 0 0; word; word; take 1")

    def test_a_lane_cannot_be_read_by_the_editions_that_are_dropped(self):
        house = built("show drop open")
        self.can(house, ONE_IN + "word; take 0")
        self.cannot(house, ONE_IN + "word; word; take 0")
        self.can(house, ONE_IN + "word; word; word; take 0")

    def test_a_lane_of_an_edition_that_is_neither_dropped_nor_opened(self):
        house = built("show drop show", (2, 1, 2), ((1, 0, 1),))
        self.cannot(house, "learn 0; send 0 0; arrive 0 0; word; word; take 1")


if __name__ == "__main__":
    unittest.main()
