"""Points 12 and 13: senders that learn, hear and send, and letters that arrive."""

import unittest

from running import Running, built

TWO_KEYS = ((0, 1), (0, 1))


class Learn(Running, unittest.TestCase):
    def test_a_sender_that_holds_none_learns_the_newest(self):
        self.leaves(built("show"), "learn 1", held=(-1, 0))
        self.leaves(built("show"), "learn 1; learn 0", held=(0, 0))
        self.leaves(built("show tell"), "word; learn 1", held=(-1, 0))
        self.leaves(built("show tell"), "word; word; learn 1", held=(-1, 1))

    def test_one_that_holds_the_newest_does_not(self):
        self.cannot(built("show", asks=True), "learn 0; learn 0")
        self.cannot(built("show tell close", asks=True), "word; word; word; learn 0; learn 0")
        self.cannot(built("show close", asks=True), "learn 0; word; word; learn 0")

    def test_one_that_holds_an_elder_edition_learns_if_senders_ask(self):
        self.cannot(built("show tell"), "learn 0; word; word; learn 0")
        self.can(built("show tell", asks=True), "learn 0; word; word; learn 0")
        self.leaves(built("show tell", asks=True), "learn 0; word; word; learn 0", held=(1, -1))

    def test_or_if_what_it_holds_is_closed(self):
        self.cannot(built("show open close"), "learn 0; word; word; learn 0")
        self.can(built("show open close"), "learn 0; word; word; word; learn 0")
        self.can(built("show close open"), "learn 0; word; word; word; learn 0")
        house = built("show open close show open", (1, 2, 3), ((0, 1, 2),))
        self.cannot(house, "word; word; learn 0; word; word; word; learn 0")

    def test_it_knows_of_no_refusal(self):
        self.cannot(built("show close"), "learn 0; send 0 0; word; word; arrive 0 0; learn 0")

    def test_there_are_as_many_senders_as_the_house_has(self):
        for senders in (1, 2, 3):
            house = built("show", senders=senders)
            for sender in range(senders):
                self.can(house, f"learn {sender}")
            self.cannot(house, f"learn {senders}")


class Hear(Running, unittest.TestCase):
    def test_a_sender_hears_what_was_told(self):
        self.leaves(built("show tell"), "learn 0; learn 1; word; word; hear 1", held=(0, 1))
        self.cannot(built("show tell"), "learn 0; word; hear 0")
        self.cannot(built("show open close"), "learn 0; word; word; word; hear 0")

    def test_one_that_holds_none_does_not(self):
        self.cannot(built("show tell"), "word; word; hear 0")

    def test_one_that_holds_this_edition_or_a_later_one_does_not(self):
        self.cannot(built("show tell"), "learn 0; word; word; hear 0; hear 0")
        self.cannot(built("show tell"), "word; word; learn 0; hear 0")
        house = built("show tell show open", (1, 2, 3), ((0, 1, 2),))
        self.cannot(house, "word; word; word; word; learn 0; hear 0")

    def test_it_hears_less_than_the_newest(self):
        house = built("show tell show open", (1, 2, 3), ((0, 1, 2),))
        self.leaves(house, "learn 0; word; word; word; word; hear 0", held=(1, -1))

    def test_it_can_hear_twice(self):
        house = built("show tell show tell", (1, 2, 3), ((0, 1, 2),))
        self.leaves(house, "learn 0; word; word; hear 0; word; word; hear 0", held=(2, -1))


class Send(Running, unittest.TestCase):
    def test_the_next_letter_gets_under_way_with_the_edition_held(self):
        house = built("show tell", courses=TWO_KEYS, paced=False)
        self.leaves(house, "learn 0; send 0 1", way=((0, 0, 1, 0),), sent=(0, 1))
        text = "learn 0; send 0 1; send 0 0; word; word; hear 0; send 0 1"
        self.leaves(house, text, way=((0, 0, 1, 0), (0, 0, 0, 0), (0, 1, 1, 1)), sent=(1, 2))

    def test_only_by_one_that_holds_an_edition(self):
        self.cannot(built("show"), "send 0 0")
        self.cannot(built("show"), "learn 1; send 0 0")

    def test_only_if_there_is_a_next_one(self):
        for letters in (1, 2, 3):
            house = built("show", letters=(letters,))
            text = "learn 0"
            for number in range(letters):
                self.can(house, text + "; send 0 0")
                text += f"; send 0 0; arrive 0 {number}"
            self.cannot(house, text + "; send 0 0")

    def test_only_of_keys_that_there_are(self):
        self.cannot(built("show"), "learn 0; send 0 1")
        self.can(built("show", courses=TWO_KEYS), "learn 0; send 0 1")

    def test_not_while_an_earlier_letter_is_back(self):
        house = built("show close tell", courses=TWO_KEYS, paced=False)
        text = "learn 0; learn 1; send 0 0; word; word; word; hear 1; "
        self.cannot(house, text + "arrive 0 0; send 0 0")
        self.cannot(house, text + "arrive 0 0; send 1 0")
        self.can(house, text + "arrive 0 0; send 1 1")
        self.can(house, text + "arrive 0 0; hear 0; again 0 0; send 0 0")

    def test_not_while_an_earlier_letter_is_under_way_from_another_sender(self):
        house = built("show", courses=TWO_KEYS, paced=False)
        self.cannot(house, "learn 0; learn 1; send 0 0; send 1 0")
        self.can(house, "learn 0; learn 1; send 0 0; send 1 1")
        self.can(house, "learn 0; learn 1; send 0 0; arrive 0 0; send 1 0")

    def test_if_paced_not_while_one_is_under_way_at_all(self):
        self.can(built("show", paced=False), "learn 0; send 0 0; send 0 0")
        self.cannot(built("show", paced=True), "learn 0; send 0 0; send 0 0")
        self.can(built("show", courses=TWO_KEYS, paced=True), "learn 0; send 0 0; send 0 1")
        self.can(built("show", paced=True), "learn 0; send 0 0; arrive 0 0; send 0 0")

    def test_a_lost_letter_is_in_nobodys_way(self):
        house = built("show close", refused="lost")
        self.can(house, "learn 0; send 0 0; word; word; arrive 0 0; send 0 0")


class Again(Running, unittest.TestCase):
    def test_a_letter_is_sent_again_by_its_sender_with_the_edition_it_holds_now(self):
        house = built("show close tell")
        text = "learn 0; learn 1; send 1 0; word; word; arrive 0 0; word; "
        self.leaves(house, text, way=(), back=((1, 0, 0, 0),))
        self.leaves(house, text + "hear 1; again 0 0", way=((1, 1, 0, 0),), back=(), sent=(1,))
        self.tells(house, text + "hear 1; again 0 0", ("refuse", 0, 0))

    def test_only_if_this_is_greater(self):
        house = built("show close tell")
        text = "learn 0; learn 1; send 1 0; word; word; arrive 0 0; word; "
        self.cannot(house, text + "again 0 0")
        self.cannot(house, text + "hear 0; again 0 0")
        self.can(house, text + "hear 1; again 0 0")

    def test_only_a_letter_that_is_back(self):
        house = built("show close tell")
        self.cannot(house, "learn 0; send 0 0; word; word; word; hear 0; again 0 0")
        text = "learn 0; send 0 0; word; word; word; arrive 0 0; hear 0; again 0 0; "
        self.cannot(house, text + "again 0 0")
        self.cannot(house, text + "arrive 0 0; again 0 0")

    def test_only_if_no_earlier_letter_is_back(self):
        house = built("show close tell", paced=False)
        text = "learn 0; send 0 0; send 0 0; word; word; word; arrive 0 0; arrive 0 1; hear 0; "
        self.leaves(house, text, back=((0, 0, 0, 0), (0, 0, 0, 1)))
        self.cannot(house, text + "again 0 1")
        self.can(house, text + "again 0 0; again 0 1")
        # A letter that is under way is not back, even if it is earlier and the senders wait for each letter.
        self.leaves(house, text + "again 0 0; again 0 1", way=((0, 1, 0, 0), (0, 1, 0, 1)), back=())

    def test_an_earlier_letter_that_has_not_arrived_blocks_nothing(self):
        house = built("show close tell", (2, 2), ((0, 1),), paced=False, letters=(3,))
        text = "learn 0; send 0 0; send 0 0; word; word; word; arrive 0 0; arrive 0 1; hear 0; again 0 0; again 0 1; "
        self.leaves(house, text + "arrive 0 0", lanes=((), ((0, 0, 1),)), way=((0, 1, 0, 1),))

    def test_letters_of_other_keys_block_nothing(self):
        house = built("show close tell", courses=TWO_KEYS)
        text = "learn 0; learn 1; send 0 0; send 1 1; word; word; word; arrive 0 0; arrive 1 0; hear 1; "
        self.leaves(house, text, back=((0, 0, 0, 0), (1, 0, 1, 0)))
        self.can(house, text + "again 1 0")
        self.cannot(house, text + "again 0 0")

    def test_back_ascends_by_key_and_number(self):
        house = built("show close", courses=TWO_KEYS, paced=False)
        text = "learn 0; learn 1; send 0 1; send 0 1; send 1 0; word; word; arrive 1 0; arrive 1 1; arrive 0 0"
        self.leaves(house, text, back=((1, 0, 0, 0), (0, 0, 1, 0), (0, 0, 1, 1)))

    def test_back_ascends_whatever_comes_back_first(self):
        house = built("show tell show close", (1, 2, 3), ((0, 1, 2),), paced=False)
        text = "learn 0; send 0 0; word; word; hear 0; send 0 0; word; word; arrive 0 1; "
        self.leaves(house, text, way=((0, 0, 0, 0),), back=((0, 1, 0, 1),))
        self.leaves(house, text + "arrive 0 0", way=(), back=((0, 0, 0, 0), (0, 1, 0, 1)))

    def test_it_can_be_refused_once_more(self):
        house = built("show close tell show close tell", (1, 2, 3), ((0, 1, 2),))
        text = "learn 0; send 0 0; word; word; word; arrive 0 0; hear 0; again 0 0; word; word; arrive 0 0; "
        self.leaves(house, text, back=((0, 1, 0, 0),), sent=(1,))
        self.tells(house, text, ("refuse", 0, 0), ("refuse", 0, 0))
        self.cannot(house, text + "again 0 0")
        self.leaves(house, text + "word; hear 0; again 0 0", way=((0, 2, 0, 0),), back=())


class Arrive(Running, unittest.TestCase):
    def test_a_letter_is_put_behind_those_of_its_lane(self):
        house = built("show tell", (2, 3), ((1, 2), (1, 0)))
        text = "learn 0; send 0 0; send 0 1; arrive 0 0; arrive 1 0; word; word; hear 0; send 0 0; arrive 0 1"
        self.leaves(house, text, lanes=((), ((0, 0, 0), (1, 0, 0)), ((0, 1, 1),)), way=())
        self.tells(house, text)

    def test_only_a_letter_that_is_under_way(self):
        self.cannot(built("show"), "learn 0; arrive 0 0")
        self.cannot(built("show"), "learn 0; send 0 0; arrive 0 1")
        self.cannot(built("show"), "learn 0; send 0 0; arrive 0 0; arrive 0 0")

    def test_not_ahead_of_one_that_its_sender_sent_to_the_same_lane_before(self):
        house = built("show", courses=((0, 1), (0, 1), (1, 0)), counts=(2, 2), paced=False, senders=3)
        self.cannot(house, "learn 0; send 0 0; send 0 0; arrive 0 1")
        self.cannot(house, "learn 0; send 0 0; send 0 1; arrive 1 0")
        self.can(house, "learn 0; send 0 0; send 0 2; arrive 2 0")
        self.can(house, "learn 0; learn 1; send 0 0; send 1 1; arrive 1 0")
        self.can(house, "learn 0; send 0 0; send 0 0; arrive 0 0; arrive 0 1")
        self.cannot(house, "learn 0; learn 1; send 0 0; send 1 1; send 0 0; arrive 0 1")

    def test_the_lane_is_that_of_the_edition_it_has(self):
        house = built("show tell", paced=False)
        self.can(house, "learn 0; send 0 0; word; word; hear 0; send 0 0; arrive 0 1")
        house = built("show tell", courses=((0, 0),), paced=False)
        self.cannot(house, "learn 0; send 0 0; word; word; hear 0; send 0 0; arrive 0 1")

    def test_before_is_by_the_last_time_it_was_sent(self):
        house = built("show close tell", (2, 2), ((0, 1), (1, 1)), paced=False)
        text = "learn 0; send 0 0; word; word; word; arrive 0 0; hear 0; send 0 1; again 0 0; "
        self.leaves(house, text, way=((0, 1, 1, 0), (0, 1, 0, 0)))
        self.cannot(house, text + "arrive 0 0")
        self.can(house, text + "arrive 1 0")

    def test_a_letter_with_a_closed_edition_is_refused(self):
        text = "learn 0; send 0 0; word; word; arrive 0 0"
        self.tells(built("show close"), text, ("refuse", 0, 0))
        self.leaves(built("show close"), text, way=(), back=((0, 0, 0, 0),), lanes=((), ()), lost=())
        self.tells(built("show close", refused="lost"), text, ("refuse", 0, 0), ("lost", 0, 0))
        self.leaves(built("show close", refused="lost"), text, way=(), back=(), lanes=((), ()), lost=((0, 0),))

    def test_one_with_another_edition_is_not(self):
        self.tells(built("show tell close"), "word; word; word; learn 0; send 0 0; arrive 0 0")
        self.tells(built("close show"), "word; word; learn 0; send 0 0; arrive 0 0")

    def test_one_for_a_dead_lane_becomes_lost(self):
        house = built("show drop", (2, 1), ((1, 0),))
        text = "learn 0; send 0 0; word; word; arrive 0 0"
        self.tells(house, text, ("lost", 0, 0))
        self.leaves(house, text, way=(), back=(), lanes=((), ()), lost=((0, 0),))

    def test_one_that_is_refused_is_refused_though_the_lane_is_dead(self):
        house = built("show close drop", (2, 1), ((1, 0),))
        text = "learn 0; send 0 0; word; word; word; arrive 0 0"
        self.tells(house, text, ("refuse", 0, 0))
        self.leaves(house, text, back=((0, 0, 0, 0),), lost=())

    def test_one_with_a_drained_edition_is_late(self):
        text = "learn 0; send 0 0; word; word; arrive 0 0"
        self.tells(built("show drain"), text, ("late", 0, 0))
        self.leaves(built("show drain"), text, lanes=(((0, 0, 0),), ()), lost=())
        self.tells(built("show tell drain"), "word; word; word; learn 0; send 0 0; arrive 0 0")

    def test_one_that_is_refused_or_lost_is_not_late(self):
        self.tells(built("show close drain"), "learn 0; send 0 0; word; word; word; arrive 0 0", ("refuse", 0, 0))
        house = built("show drain drop", (2, 1), ((1, 0),))
        self.tells(house, "learn 0; send 0 0; word; word; word; arrive 0 0", ("lost", 0, 0))

    def test_a_lane_that_cannot_be_read_takes_letters(self):
        self.leaves(built("show tell"), "word; word; learn 0; send 0 0; arrive 0 0", lanes=((), ((0, 0, 1),)))

    def test_lost_ascends(self):
        house = built("show close", courses=TWO_KEYS, refused="lost", paced=False)
        text = "learn 0; send 0 1; send 0 1; send 0 0; word; word; arrive 1 0; arrive 1 1; arrive 0 0"
        self.leaves(house, text, lost=((0, 0), (1, 0), (1, 1)))


if __name__ == "__main__":
    unittest.main()
