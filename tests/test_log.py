"""The log: which calls make an entry, and that there are 400 at most."""

import unittest

from museumhouse.changes import change
from museumhouse.museum import Museum
from tests.helper import (AWAY, HALL, HouseCase, STORE, book, cancel, day, down, hang, harm, home, lend, light, move,
                          place, said, show, start, state, thing, unbook)

# Place 1 is a hall with room for 2, place 2 away, place 3 a store with room for 1; things 0 to 3, 3 is lent;
# show 0 is today and has thing 0, show 1 is later and has nothing; show 2, in the hall 4, hangs and has thing 4.
SETTING = [place(0, HALL, 2, 0), place(0, AWAY, 2, 0), place(0, STORE, 1, 0), thing("a"), thing("b", limit=0),
           thing("c"), thing("d"), lend(3, 2, 5), show(1, 0, 2), show(1, 8, 9), book(0, 0), place(0, HALL, 2, 0),
           thing("z"), show(4, 0, 9), book(2, 4), hang(2)]

# Calls that would be done in that setting, each by itself.
POSSIBLE = [place(0, STORE, 1, 0), light(1, 7), thing("e"), move(2, 3), day(1), harm(2, 3), lend(2, 2, 5), home(3, 0),
            show(1, 3, 4), book(1, 1), unbook(0, 0), hang(0), down(2, 3), cancel(0), cancel(1)]


def full(left=0):
    """Calls that leave so many entries free, and the setting made."""
    return [start()] + SETTING + [move(1, 0)] * (400 - len(SETTING) - left)


class LogTest(HouseCase):
    def test_the_setting(self):
        told = said([start()] + SETTING)
        self.assertEqual(told, [[0], [1], [2], [3], [0], [1], [2], [3], [0], [0], [1], [1], [4], [4], [2], [1], [1]])
        self.assertEqual({call[0] for call in POSSIBLE}, set(range(1, 15)))
        for call in POSSIBLE:
            self.assertGreaterEqual(said([start()] + SETTING + [call])[-1][0], 0, call)

    def test_400_entries_and_no_more(self):
        for call in POSSIBLE:
            with self.subTest(call=call):
                done = said([start()] + SETTING + [call])[-1]
                told = said(full(left=1) + [call, move(1, 0)])
                self.assertEqual(told[-2:], [done, [-75]])
                self.assertEqual(said(full() + [call])[-1], [-75])

    def test_399_calls_of_each_kind_that_may_be_done_again(self):
        for call in (light(0, 1), move(0, 0), harm(0, 1), day(1)):
            told = said([start(), thing("a")] + [call] * 400)
            self.assertEqual([number for answer in told[:-1] for number in answer if number < 0], [])
            self.assertEqual(told[-1], [-75])

    def test_nothing_is_done_beyond(self):
        every = POSSIBLE * 2
        told = said(full() + [state()] + every + [state()])
        self.assertEqual(told[-len(every) - 1:-1], [[-75]] * len(every))
        self.assertEqual(told[-1], [0, 5, 5, 3, 400])
        self.assertEqual(told[-len(every) - 2], told[-1])

    def test_none_of_them_changes_what_others_answer(self):
        for call in POSSIBLE:
            with self.subTest(call=call):
                told = said(full() + [call] + POSSIBLE)
                self.assertEqual(told[-len(POSSIBLE):], [[-75]] * len(POSSIBLE))

    def test_light_told_beyond_does_not_hold(self):
        told = said(full() + [light(1, 7), light(0, 7), book(1, 1)])
        self.assertEqual(told[-3:], [[-75], [-75], [-75]])

    def test_harm_beyond_is_not_its_harm(self):
        told = said(full() + [harm(2, 3), move(2, 1), lend(2, 2, 5)])
        self.assertEqual(told[-3:], [[-75], [-75], [-75]])

    def test_no_day_passes_beyond(self):
        told = said(full() + [day(1), show(1, 2, 3), lend(2, 2, 1)])
        self.assertEqual(told[-3:], [[-75], [-75], [-75]])

    def test_another_refusal_is_told_first(self):
        refused = [
            (place(9, 0, 1, 0), -2), (place(0, 4, 1, 0), -22), (light(9, 0), -2), (light(0, 10001), -22),
            (thing("e", n=9), -22), (thing("e", at=9), -2), (thing("E"), -22), (thing("a"), -17), (move(9, 0), -2),
            (move(0, 2), -22), (move(3, 0), -17), (day(0), -22), (day(2001), -22), (harm(9, 0), -2), (harm(0, 6), -22),
            (lend(9, 2, 5), -2), (lend(0, 0, 5), -22), (lend(3, 2, 5), -17), (lend(0, 2, 5), -16), (home(9, 0), -2),
            (home(0, 0), -6), (home(3, 2), -22), (show(9, 0, 1), -2), (show(0, 0, 1), -22), (show(1, 1, 3), -16),
            (book(9, 0), -2), (book(0, 0), -17), (unbook(9, 0), -2), (unbook(0, 1), -6), (hang(9), -2), (hang(1), -13),
            (down(9, 0), -2), (down(0, 0), -6), (down(2, 1), -22), (cancel(9), -2), (cancel(2), -15)]
        told = said(full() + [call for call, wanted in refused])
        self.assertEqual(told[-len(refused):], [[wanted] for call, wanted in refused])

    def test_a_refusal_makes_no_entry(self):
        told = said(full(left=1) + [day(0), light(9, 0), thing("a"), hang(9), move(1, 0), move(1, 0)])
        self.assertEqual(told[-6:], [[-22], [-2], [-17], [-2], [0], [-75]])

    def test_a_start_makes_no_entry_and_empties_the_log(self):
        told = said(full() + [move(1, 0), start()] + [light(0, 0)] * 401)
        self.assertEqual(told[-403:], [[-75]] + [[0]] * 401 + [[-75]])


class KeptTest(unittest.TestCase):
    """What is kept and no call of these asks back."""

    def test_an_entry_has_the_call_and_its_numbers(self):
        museum = Museum()
        change(museum, 1, [0, 1, 2, 3], [])
        change(museum, 3, [2, 4, 5, 1], [97, 98])
        change(museum, 5, [0], [])
        change(museum, 7, [0, 1, 9], [])
        change(museum, 5, [6], [])
        self.assertEqual(museum.entries, [[1, 0, 1, 2, 3], [3, 2, 4, 5, 1, 97, 98], [5, 6]])

    def test_a_place_and_a_thing_are_as_told(self):
        museum = Museum()
        change(museum, 1, [0, 1, 2, 3], [])
        change(museum, 1, [1, 2, 24, 10000], [])
        change(museum, 5, [6], [])
        change(museum, 3, [2, 4, 5, 1], [97, 98])
        self.assertEqual([kept.up for kept in museum.places], [None, 0, 1])
        kept = museum.things[0]
        self.assertEqual((kept.name, kept.material, kept.limit, kept.harm, kept.came), ([97, 98], 4, 5, 0, 6))


if __name__ == "__main__":
    unittest.main()
