"""mu_down (point 9) and mu_cancel (point 7)."""

import unittest

from tests.helper import (AWAY, BIGGEST, HALL, HouseCase, STORE, WORKSHOP, book, cancel, day, down, find, bits, hang,
                          harm, home, inside, lend, move, place, show, state, thing, unbook, where)


class DownTest(HouseCase):
    def with_show(self, *pairs):
        """Place 1 is a hall, 2 a store with room for 2, 3 a workshop, 4 away, 5 a second hall; things 0 to 2, of
        which 0 and 1 hang in show 0; show 1 isn't hung."""
        self.check((place(0, HALL, 3, 10), 1), (place(0, STORE, 2, 0), 2), (place(0, WORKSHOP, 3, 0), 3),
                   (place(0, AWAY, 3, 0), 4), (place(0, HALL, 3, 0), 5), (thing("a"), 0), (thing("b"), 1),
                   (thing("c"), 2), (show(1, 0, 5), 0), (show(5, 0, 9), 1), (book(0, 1), 1), (book(0, 0), 2),
                   (hang(0), 2), *pairs)

    def test_all_are_put_there(self):
        self.with_show((down(0, 2), 2), (where(0, 0), 2), (where(1, 0), 2), (where(2, 0), 0), (inside(1), bits()))

    def test_a_workshop_or_the_house_will_do(self):
        self.with_show((down(0, 3), 2), (inside(3), bits(0, 1)))
        self.with_show((down(0, 0), 2), (find("in 0 and not shown"), bits(0, 1, 2)))

    def test_the_show_is_gone(self):
        self.with_show((state(), [0, 6, 3, 2, 13]), (down(0, 2), 2), (state(), [0, 6, 3, 1, 14]), (down(0, 2), -2),
                       (cancel(0), -2), (book(0, 2), -2), (unbook(0, 0), -2), (hang(0), -2), (show(1, 2, 4), 0),
                       (book(0, 0), 1))

    def test_what_hung_is_free(self):
        self.with_show((move(0, 3), -16), (lend(1, 4, 3), -16), (down(0, 2), 2), (move(0, 3), 0), (lend(1, 4, 3), 0))

    def test_no_such_show(self):
        self.with_show((down(2, 2), -2), (down(5, 2), -2), (down(6, 2), -2), (down(BIGGEST, 2), -2))

    def test_no_such_place(self):
        self.with_show((down(0, 6), -2), (down(0, BIGGEST), -2), (down(0, 2), 2))

    def test_it_is_not_hung(self):
        self.with_show((down(1, 2), -6), (hang(1), 0), (down(1, 2), 0))

    def test_a_hall_or_away(self):
        self.with_show((down(0, 1), -22), (down(0, 5), -22), (down(0, 4), -22), (down(0, 2), 2))

    def test_room_for_all_and_what_is_there(self):
        self.with_show((move(2, 2), 0), (down(0, 2), -12), (inside(1), bits(0, 1)), (move(2, 0), 0), (down(0, 2), 2))

    def test_room_is_not_taken_by_what_is_within_the_place(self):
        self.check((place(0, HALL, 3, 0), 1), (place(0, STORE, 1, 0), 2), (place(2, STORE, 3, 0), 3), (thing("a"), 0),
                   (thing("b", at=3), 1), (show(1, 0, 5), 0), (book(0, 0), 1), (hang(0), 1), (down(0, 2), 1))

    def test_the_last_room_of_all(self):
        pairs = [(place(0, HALL, 24, 0), 1), (show(1, 0, 5), 0)]
        pairs += [(thing("abcdefghijklmnopqrstuvwx"[k]), k) for k in range(24)]
        pairs += [(book(0, k), k + 1) for k in range(24)]
        self.check(*pairs, (hang(0), 24), (down(0, 0), 24), (inside(1), bits()), (inside(0), bits(*range(24))))

    def test_order_of_refusals(self):
        full = [(place(0, STORE, 1, 0), 6), (thing("d", at=6), 3)]
        self.with_show(*full, (down(2, 1), -2), (down(1, 6), -6), (down(1, 7), -2), (down(1, 1), -6), (down(1, 4), -6),
                       (down(0, 6), -12))
        one = [(place(0, HALL, 1, 0), 6), (thing("d", at=6), 3)]
        self.with_show(*one, (down(0, 6), -22))

    def test_nothing_booked(self):
        self.with_show((hang(1), 0), (move(2, 2), 0), (thing("d", at=2), 3), (down(1, 2), 0), (state(), [0, 6, 4, 1, 17]))

    def test_before_its_end_and_long_behind(self):
        self.with_show((day(1), 1), (down(0, 2), 2))
        self.with_show((day(500), 500), (down(0, 2), 2), (where(0, 499), 1), (where(0, 500), 2))

    def test_what_is_harmed_comes_down(self):
        self.with_show((harm(0, 5), 1), (down(0, 2), 2), (move(0, 1), -61))

    def test_other_shows_stay(self):
        self.with_show((down(0, 2), 2), (book(1, 0), 1), (hang(1), 1), (where(0, 0), 5))

    def test_on_one_day_hung_and_taken_down(self):
        self.with_show((down(0, 0), 2), (show(1, 0, 5), 0), (book(0, 2), 1), (hang(0), 1), (where(2, 0), 1))

    def test_a_refused_one_changes_nothing(self):
        self.with_show((move(2, 2), 0), (down(0, 2), -12), (down(0, 1), -22), (down(1, 2), -6), (down(9, 2), -2),
                       (state(), [0, 6, 3, 2, 14]), (where(0, 0), 1), (where(1, 0), 1), (move(0, 0), -16),
                       (book(0, 2), -15))


class CancelTest(HouseCase):
    def with_shows(self, *pairs):
        self.check((place(0, HALL, 3, 10), 1), (place(0, HALL, 3, 10), 2), (thing("a"), 0), (thing("b"), 1),
                   (show(1, 0, 5), 0), (show(2, 0, 5), 1), (show(1, 5, 9), 2), (book(0, 0), 1), (book(1, 1), 1), *pairs)

    def test_it_is_gone(self):
        self.with_shows((state(), [0, 3, 2, 3, 9]), (cancel(0), 0), (state(), [0, 3, 2, 2, 10]), (cancel(0), -2),
                        (hang(0), -2), (book(0, 0), -2), (down(0, 0), -2))

    def test_its_place_of_the_list_is_the_first_free_one(self):
        self.with_shows((cancel(2), 0), (cancel(0), 0), (show(1, 0, 5), 0), (show(1, 5, 9), 2), (show(1, 9, 12), 3))

    def test_its_place_is_free_when_all_six_were_taken(self):
        self.with_shows((show(1, 9, 10), 3), (show(1, 10, 11), 4), (show(1, 11, 12), 5), (show(1, 12, 13), -28),
                        (cancel(4), 0), (show(1, 12, 13), 4), (show(1, 13, 14), -28), (cancel(5), 0),
                        (show(1, 13, 14), 5))

    def test_what_was_booked_is_free(self):
        self.with_shows((book(1, 0), -16), (cancel(0), 0), (book(1, 0), 2))

    def test_a_new_show_there_has_nothing_booked(self):
        self.with_shows((cancel(0), 0), (show(1, 0, 5), 0), (unbook(0, 0), -6), (hang(0), 0))

    def test_nothing_is_moved(self):
        self.with_shows((move(0, 2), 0), (cancel(0), 0), (where(0, 0), 2))

    def test_no_such_show(self):
        self.with_shows((cancel(3), -2), (cancel(6), -2), (cancel(BIGGEST), -2))
        self.check((cancel(0), -2))

    def test_it_is_hung(self):
        self.with_shows((hang(0), 1), (cancel(0), -15), (state(), [0, 3, 2, 3, 10]), (where(0, 0), 1), (down(0, 0), 1),
                        (cancel(0), -2))

    def test_one_that_is_over(self):
        self.with_shows((day(7), 7), (hang(0), -13), (cancel(0), 0))

    def test_one_that_lasts(self):
        self.with_shows((day(3), 3), (cancel(0), 0), (show(1, 3, 5), 0))

    def test_what_was_booked_may_be_lent(self):
        self.with_shows((place(0, AWAY, 1, 0), 3), (lend(0, 3, 4), -16), (cancel(0), 0), (lend(0, 3, 4), 0),
                        (home(0, 0), 0))


if __name__ == "__main__":
    unittest.main()
