"""mu_entry and mu_state (point 13)."""

import unittest

from tests.helper import (AWAY, BIGGEST, HALL, HouseCase, STORE, book, cancel, day, dose, down, entry, find, hang, harm,
                          home, inside, lend, light, move, must, names, overdue, place, said, show, start, state, thing,
                          unbook, until, where, write)

# Each of the calls that make an entry, once at least, none refused.
ALL_KINDS = [place(0, HALL, 3, 50), place(0, AWAY, 1, 7), light(1, 60), thing("vase", 1, 1000, 0), move(0, 1), day(1),
             harm(0, 2), lend(0, 2, 5), home(0, 0), show(1, 1, 3), book(0, 0), unbook(0, 0), book(0, 0), hang(0),
             down(0, 0), show(1, 4, 6), cancel(0)]

ASKING = [where(0, 0), dose(0, 0), until(0), inside(0), overdue(), must(), find("all"), write("all"), entry(0), state()]


def filled(numbers):
    return numbers + [0] * (13 - len(numbers))


def wanted_entry(call):
    """What mu_entry tells of a call, behind the number answered."""
    if call[0] != 3:
        return filled(list(call))
    return filled(call[:5] + call[6:6 + call[1]])


class EntryTest(HouseCase):
    def test_none(self):
        self.check((entry(0), -2), (entry(1), -2), (entry(BIGGEST), -2))

    def test_entry_0_the_last_one_and_the_one_behind_it(self):
        self.check((place(0, STORE, 4, 9), 1), (day(3), 3), (light(1, 8), 0),
                   (entry(0), [3, 1, 0, 0, 4, 9] + [0] * 8), (entry(1), [3, 5, 3] + [0] * 11),
                   (entry(2), [3, 2, 1, 8] + [0] * 10), (entry(3), -2), (entry(400), -2), (entry(BIGGEST), -2))

    def test_every_kind_of_entry(self):
        count = len(ALL_KINDS)
        told = said([start()] + ALL_KINDS + [entry(k) for k in range(count)])
        for answer in told[:count + 1]:
            self.assertGreaterEqual(answer[0], 0)
        for k, call in enumerate(ALL_KINDS):
            self.assertEqual(told[count + 1 + k], [count] + wanted_entry(call), call)
        self.assertEqual({call[0] for call in ALL_KINDS}, set(range(1, 15)))

    def test_a_name_of_8_letters(self):
        self.check((thing("abcdefgh", 7, 1000000, 0), 0),
                   (entry(0), [1, 3, 8, 7, 1000000, 0, 97, 98, 99, 100, 101, 102, 103, 104]))

    def test_a_name_of_1_letter(self):
        self.check((thing("z", 2, 3, 0, behind=255), 0), (entry(0), [1, 3, 1, 2, 3, 0, 122] + [0] * 7))

    def test_of_the_name_the_n_bytes_alone(self):
        self.check((thing("abcdefgh", 0, 0, 0, n=3), 0), (entry(0), [1, 3, 3, 0, 0, 0, 97, 98, 99] + [0] * 5))

    def test_400_entries(self):
        told = said([start()] + [light(0, k) for k in range(400)] + [light(0, 7), entry(0), entry(399), entry(400)])
        self.assertEqual(told[-4:], [[-75], [400, 2, 0, 0] + [0] * 10, [400, 2, 0, 399] + [0] * 10, [-2]])

    def test_a_refused_call_makes_none(self):
        self.check((light(1, 0), -2), (day(0), -22), (move(0, 0), -2), (down(0, 0), -2), (cancel(0), -2), (entry(0), -2),
                   (state(), [0, 1, 0, 0, 0]))

    def test_what_asks_makes_none(self):
        told = said([start(), thing("a")] + ASKING * 3 + [entry(0), entry(1), state()])
        self.assertEqual(told[-3:], [[1, 3, 1, 0, 1000000, 0, 97] + [0] * 7, [-2], [0, 1, 1, 0, 1]])

    def test_what_asks_is_answered_when_the_log_is_full(self):
        told = said([start(), thing("a")] + [light(0, 0)] * 400 + ASKING)
        self.assertEqual(told[-len(ASKING) - 1], [-75])
        self.assertEqual(told[-len(ASKING):], [
            [0], [0], [2000], [1, 1], [0, 0], [0, 0], [1, 1], [3, 97, 108, 108] + [0] * 117,
            [400, 3, 1, 0, 1000000, 0, 97] + [0] * 7, [0, 1, 1, 0, 400]])

    def test_a_new_start_empties_the_log(self):
        self.check((day(1), 1), (start(), 0), (entry(0), -2), (day(2), 2), (entry(0), [1, 5, 2] + [0] * 11))

    def test_an_entry_stays_as_it_was(self):
        self.check((thing("a", 1, 2, 0), 0), (entry(0), [1, 3, 1, 1, 2, 0, 97] + [0] * 7), (move(0, 0), 0), (harm(0, 4), 0),
                   (entry(0), [3, 3, 1, 1, 2, 0, 97] + [0] * 7), (entry(0), [3, 3, 1, 1, 2, 0, 97] + [0] * 7))


class StateTest(HouseCase):
    def test_at_first(self):
        self.check((state(), [0, 1, 0, 0, 0]))

    def test_today(self):
        self.check((day(7), 7), (state(), [7, 1, 0, 0, 1]), (day(1993), 2000), (state(), [2000, 1, 0, 0, 2]))

    def test_places_things_shows_and_entries(self):
        self.check((place(0, HALL, 3, 0), 1), (state(), [0, 2, 0, 0, 1]), (thing("a"), 0), (state(), [0, 2, 1, 0, 2]),
                   (show(1, 0, 1), 0), (state(), [0, 2, 1, 1, 3]), (move(0, 0), 0), (state(), [0, 2, 1, 1, 4]),
                   (show(1, 1, 2), 1), (show(1, 2, 3), 2), (state(), [0, 2, 1, 3, 6]), (cancel(1), 0),
                   (state(), [0, 2, 1, 2, 7]), (hang(0), 0), (state(), [0, 2, 1, 2, 8]), (down(0, 0), 0),
                   (state(), [0, 2, 1, 1, 9]))

    def test_the_most_there_can_be(self):
        places = [(place(0, HALL, 24, 0), k) for k in range(1, 12)]
        things = [(thing(name), k) for k, name in enumerate(names(24))]
        shows = [(show(k + 1, 0, 5), k) for k in range(6)]
        self.check(*places, *things, *shows, *[(light(0, 0), 0)] * 359, (state(), [0, 12, 24, 6, 400]), (light(0, 0), -75),
                   (state(), [0, 12, 24, 6, 400]))

    def test_a_new_start(self):
        self.check((place(0, HALL, 3, 0), 1), (thing("a"), 0), (show(1, 0, 1), 0), (day(3), 3), (start(), 0),
                   (state(), [0, 1, 0, 0, 0]))


if __name__ == "__main__":
    unittest.main()
