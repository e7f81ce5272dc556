"""mu_lend and mu_home (point 6)."""

import unittest

from tests.helper import (AWAY, BIGGEST, HALL, HouseCase, STORE, WORKSHOP, book, day, hang, harm, home, lend, move,
                          place, show, thing, unbook)

# Place 1 is a hall with room for 2, place 2 away with room for 1, place 3 away with room for 2; things 0 and 1.
SETTING = [(place(0, HALL, 2, 0), 1), (place(0, AWAY, 1, 0), 2), (place(0, AWAY, 2, 0), 3), (thing("a"), 0),
           (thing("b"), 1)]


class LendTest(HouseCase):
    def lending(self, *pairs):
        self.check(*SETTING, *pairs)

    def test_no_such_thing_or_place(self):
        self.lending((lend(2, 2, 5), -2), (lend(0, 4, 5), -2), (lend(BIGGEST, 2, 5), -2), (lend(0, BIGGEST, 5), -2),
                     (lend(1, 3, 5), 0))

    def test_only_away(self):
        self.lending((place(0, STORE, 1, 0), 4), (place(0, WORKSHOP, 1, 0), 5), (lend(0, 0, 5), -22),
                     (lend(0, 1, 5), -22), (lend(0, 4, 5), -22), (lend(0, 5, 5), -22), (lend(0, 2, 5), 0))

    def test_back_is_after_today(self):
        self.lending((lend(0, 2, 0), -22), (lend(0, 2, 1), 0))
        self.lending((day(5), 5), (lend(0, 2, 4), -22), (lend(0, 2, 5), -22), (lend(0, 2, 6), 0))

    def test_back_is_2000_at_most(self):
        self.lending((lend(0, 2, 2001), -22), (lend(0, 2, BIGGEST), -22), (lend(0, 2, 2000), 0))

    def test_not_twice(self):
        self.lending((lend(0, 3, 5), 0), (lend(0, 3, 6), -17), (lend(0, 2, 6), -17), (day(7), 7),
                     (lend(0, 3, 9), -17), (home(0, 0), 0), (lend(0, 3, 9), 0))

    def test_not_while_its_show_is_hung(self):
        self.lending((show(1, 0, 3), 0), (book(0, 0), 1), (hang(0), 1), (lend(0, 2, 5), -16), (lend(1, 2, 5), 0),
                     (day(3), 3), (lend(0, 3, 5), -16))

    def test_no_day_of_its_show_may_be_within(self):
        self.lending((show(1, 5, 7), 0), (book(0, 0), 1), (lend(0, 2, 6), -16), (lend(0, 2, 5), 0))
        self.lending((show(1, 5, 7), 0), (book(0, 0), 1), (lend(0, 2, 2000), -16), (unbook(0, 0), 0),
                     (lend(0, 2, 2000), 0))
        self.lending((show(1, 5, 7), 0), (book(0, 0), 1), (day(6), 6), (lend(0, 2, 7), -16), (day(1), 7),
                     (lend(0, 2, 8), 0))
        self.lending((show(1, 0, 1), 0), (book(0, 0), 1), (lend(0, 2, 1), -16))

    def test_any_of_its_shows(self):
        self.lending((show(1, 2, 4), 0), (show(1, 8, 9), 1), (book(0, 0), 1), (book(1, 0), 1), (day(4), 4),
                     (lend(0, 2, 9), -16), (lend(0, 2, 8), 0))

    def test_harm(self):
        self.lending((harm(0, 3), 0), (lend(0, 2, 5), -61), (harm(0, 2), 0), (lend(0, 2, 5), 0))

    def test_full(self):
        self.lending((lend(0, 2, 5), 0), (lend(1, 2, 5), -12), (lend(1, 3, 5), 0))

    def test_order_of_refusals(self):
        self.lending((lend(9, 0, 0), -2), (lend(0, 9, 0), -2), (lend(0, 2, 5), 0), (lend(0, 0, 5), -22),
                     (lend(0, 3, 0), -22), (lend(0, 3, 2001), -22), (harm(0, 3), 0), (lend(0, 2, 5), -17))
        self.lending((show(1, 6, 7), 0), (book(0, 0), 1), (harm(0, 3), 0), (lend(1, 2, 9), 0), (lend(0, 2, 7), -16),
                     (lend(0, 2, 5), -61), (harm(0, 0), 0), (lend(0, 2, 5), -12), (lend(0, 2, 7), -16),
                     (lend(0, 1, 7), -22))
        # Lent, and booked for a show within the time: it was lent first, till the show's first day.
        self.lending((lend(0, 2, 3), 0), (show(1, 3, 6), 0), (book(0, 0), 1), (lend(0, 3, 5), -17))

    def test_it_is_put_there(self):
        self.lending((place(0, STORE, 1, 0), 4), (move(0, 4), 0), (move(1, 4), -12), (lend(0, 2, 5), 0),
                     (move(1, 4), 0), (lend(1, 2, 5), -12))

    def test_a_refused_loan_leaves_it(self):
        self.lending((lend(0, 2, 0), -22), (home(0, 0), -6), (harm(0, 3), 0), (lend(0, 2, 5), -61), (home(0, 0), -6),
                     (lend(1, 2, 5), 0), (move(0, 0), 0))


class HomeTest(HouseCase):
    def lent(self, *pairs):
        self.check(*SETTING, (lend(0, 2, 5), 0), *pairs)

    def test_no_such_thing_or_place(self):
        self.lent((home(2, 0), -2), (home(0, 4), -2), (home(BIGGEST, 0), -2), (home(0, BIGGEST), -2), (home(0, 0), 0))

    def test_not_lent(self):
        self.lent((home(1, 0), -6), (home(0, 0), 0), (home(0, 0), -6))

    def test_not_to_a_place_away(self):
        self.lent((home(0, 2), -22), (home(0, 3), -22), (home(0, 0), 0))

    def test_each_other_kind(self):
        for kind in (STORE, HALL, WORKSHOP):
            self.lent((place(0, kind, 1, 0), 4), (home(0, 4), 0), (home(0, 4), -6))

    def test_bad_for_a_hall(self):
        self.lent((harm(0, 3), 0), (home(0, 1), -61), (harm(0, 2), 0), (home(0, 1), 0))
        self.lent((harm(0, 5), 0), (home(0, 1), -61), (home(0, 0), 0))

    def test_full(self):
        self.lent((place(0, STORE, 1, 0), 4), (move(1, 4), 0), (home(0, 4), -12), (move(1, 0), 0), (home(0, 4), 0))

    def test_before_and_after_its_day(self):
        self.lent((home(0, 0), 0))
        self.lent((day(50), 50), (home(0, 0), 0), (lend(0, 2, 51), 0))

    def test_order_of_refusals(self):
        self.lent((home(1, 9), -2), (home(9, 2), -2), (home(1, 2), -6), (harm(1, 3), 0), (home(1, 1), -6),
                  (place(0, HALL, 1, 0), 4), (thing("c", at=4), 2), (harm(0, 3), 0), (home(0, 4), -61),
                  (home(0, 2), -22), (harm(0, 0), 0), (home(0, 4), -12), (home(0, 2), -22))

    def test_it_is_put_there(self):
        self.lent((place(0, STORE, 1, 0), 4), (lend(1, 2, 5), -12), (home(0, 4), 0), (move(1, 4), -12),
                  (lend(1, 2, 5), 0))

    def test_a_refused_return_leaves_it_lent(self):
        self.lent((home(0, 2), -22), (move(0, 0), -17), (lend(1, 2, 5), -12), (home(0, 0), 0))


if __name__ == "__main__":
    unittest.main()
