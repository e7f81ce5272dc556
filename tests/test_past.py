"""mu_where, mu_dose and mu_until (point 10)."""

import unittest

from tests.helper import (AWAY, BIGGEST, HALL, HouseCase, STORE, book, day, dose, down, hang, harm, home, lend, light,
                          move, place, show, thing, until, where)


class WhereTest(HouseCase):
    def with_places(self, *pairs):
        self.check((place(0, STORE, 3, 5), 1), (place(0, HALL, 3, 50), 2), (place(0, AWAY, 3, 0), 3), *pairs)

    def test_no_such_thing(self):
        self.with_places((where(0, 0), -2), (thing("a"), 0), (where(1, 0), -2), (where(BIGGEST, 0), -2))

    def test_today_and_the_day_after_it(self):
        self.with_places((thing("a", at=1), 0), (where(0, 0), 1), (where(0, 1), -22), (where(0, BIGGEST), -22),
                         (day(1), 1), (where(0, 1), 1), (where(0, 2), -22))

    def test_the_day_when_it_came_and_the_one_before(self):
        self.with_places((day(7), 7), (thing("a", at=1), 0), (where(0, 7), 1), (where(0, 6), -6), (where(0, 0), -6),
                         (day(2), 9), (where(0, 7), 1), (where(0, 6), -6), (where(0, 9), 1), (where(0, 10), -22))

    def test_order_of_refusals(self):
        self.with_places((where(0, 1), -2), (where(0, 0), -2), (day(3), 3), (thing("a"), 0), (where(1, 4), -2),
                         (where(1, 2), -2), (where(0, 4), -22), (where(0, 2), -6))

    def test_of_several_places_on_one_day_the_last(self):
        self.with_places((thing("a"), 0), (day(1), 1), (move(0, 1), 0), (move(0, 2), 0), (where(0, 1), 2), (day(1), 2),
                         (where(0, 0), 0), (where(0, 1), 2), (where(0, 2), 2), (move(0, 1), 0), (move(0, 0), 0),
                         (day(1), 3), (where(0, 2), 0))

    def test_moved_on_the_day_when_it_came(self):
        self.with_places((day(2), 2), (thing("a"), 0), (move(0, 2), 0), (day(1), 3), (where(0, 2), 2), (where(0, 1), -6))

    def test_on_till_it_is_put_elsewhere(self):
        self.with_places((thing("a", at=1), 0), (day(10), 10), (move(0, 2), 0), (day(10), 20), (move(0, 0), 0),
                         (day(5), 25), (where(0, 0), 1), (where(0, 9), 1), (where(0, 10), 2), (where(0, 19), 2),
                         (where(0, 20), 0), (where(0, 25), 0))

    def test_lent_and_brought_home(self):
        self.with_places((thing("a", at=1), 0), (day(1), 1), (lend(0, 3, 3), 0), (where(0, 1), 3), (day(4), 5),
                         (home(0, 0), 0), (day(1), 6), (where(0, 0), 1), (where(0, 1), 3), (where(0, 4), 3),
                         (where(0, 5), 0), (where(0, 6), 0))

    def test_hung_and_taken_down(self):
        self.with_places((thing("a", at=1), 0), (show(2, 2, 4), 0), (book(0, 0), 1), (day(2), 2), (hang(0), 1),
                         (where(0, 2), 2), (day(2), 4), (down(0, 0), 1), (day(1), 5), (where(0, 1), 1), (where(0, 2), 2),
                         (where(0, 3), 2), (where(0, 4), 0))

    def test_day_2000(self):
        self.with_places((thing("a", at=1), 0), (day(2000), 2000), (where(0, 2000), 1), (where(0, 2001), -22),
                         (move(0, 2), 0), (where(0, 2000), 2), (where(0, 1999), 1), (thing("b"), 1), (where(1, 2000), 0),
                         (where(1, 1999), -6))

    def test_each_thing_by_itself(self):
        self.with_places((thing("a"), 0), (day(3), 3), (thing("b", at=1), 1), (day(3), 6), (move(0, 2), 0),
                         (where(0, 3), 0), (where(1, 3), 1), (where(0, 6), 2), (where(1, 6), 1), (where(1, 2), -6),
                         (where(0, 2), 0))

    def test_a_refused_move_is_no_move(self):
        self.with_places((thing("a", at=1), 0), (move(0, 3), -22), (move(0, 4), -2), (where(0, 0), 1), (day(1), 1),
                         (where(0, 0), 1))


class DoseTest(HouseCase):
    def with_places(self, *pairs):
        self.check((place(0, STORE, 3, 5), 1), (place(0, HALL, 3, 50), 2), (place(0, AWAY, 3, 7), 3), *pairs)

    def test_refusals(self):
        self.with_places((dose(0, 0), -2), (dose(BIGGEST, 0), -2), (thing("a"), 0), (dose(1, 0), -2), (dose(0, 1), -22),
                         (dose(0, BIGGEST), -22), (dose(0, 0), 0))

    def test_order_of_refusals(self):
        self.with_places((dose(0, 1), -2), (day(3), 3), (thing("a"), 0), (dose(1, 4), -2), (dose(0, 4), -22))

    def test_to_a_day_that_day_does_not_count(self):
        self.with_places((thing("a", at=1), 0), (dose(0, 0), 0), (day(3), 3), (dose(0, 0), 0), (dose(0, 1), 5),
                         (dose(0, 2), 10), (dose(0, 3), 15), (dose(0, 4), -22))

    def test_before_it_came_there_is_none(self):
        self.with_places((day(4), 4), (thing("a", at=1), 0), (dose(0, 4), 0), (dose(0, 3), 0), (dose(0, 0), 0),
                         (day(2), 6), (dose(0, 3), 0), (dose(0, 4), 0), (dose(0, 5), 5), (dose(0, 6), 10))

    def test_where_it_was_at_the_end_of_the_day(self):
        self.with_places((thing("a", at=2), 0), (move(0, 1), 0), (day(1), 1), (dose(0, 1), 5), (move(0, 2), 0),
                         (day(2), 3), (move(0, 0), 0), (dose(0, 3), 105), (day(1), 4), (dose(0, 4), 105),
                         (dose(0, 2), 55))

    def test_a_light_told_anew_holds_from_that_day(self):
        self.with_places((thing("a", at=1), 0), (day(2), 2), (light(1, 100), 0), (dose(0, 2), 10), (day(2), 4),
                         (dose(0, 2), 10), (dose(0, 3), 110), (dose(0, 4), 210), (light(1, 1), 0), (dose(0, 4), 210),
                         (day(1), 5), (dose(0, 5), 211))

    def test_of_what_is_told_on_one_day_the_last_holds(self):
        self.with_places((thing("a", at=1), 0), (light(1, 1000), 0), (light(1, 3), 0), (day(1), 1), (dose(0, 1), 3),
                         (light(1, 10), 0), (light(1, 0), 0), (day(1), 2), (dose(0, 2), 3))

    def test_a_light_told_while_it_is_elsewhere(self):
        self.with_places((thing("a", at=1), 0), (day(1), 1), (light(2, 9), 0), (day(1), 2), (move(0, 2), 0), (day(1), 3),
                         (dose(0, 1), 5), (dose(0, 2), 10), (dose(0, 3), 19))

    def test_light_0(self):
        self.with_places((thing("a"), 0), (day(2000), 2000), (dose(0, 2000), 0))

    def test_the_most_there_can_be(self):
        self.check((light(0, 10000), 0), (thing("a"), 0), (day(2000), 2000), (dose(0, 2000), 20000000),
                   (dose(0, 1999), 19990000), (dose(0, 2001), -22))

    def test_away_too(self):
        self.with_places((thing("a"), 0), (lend(0, 3, 2), 0), (day(3), 3), (dose(0, 3), 21), (home(0, 1), 0), (day(1), 4),
                         (dose(0, 4), 26))

    def test_days_one_by_one_or_all_at_once(self):
        self.with_places((thing("a", at=2), 0), *[(day(1), k) for k in range(1, 11)], (dose(0, 10), 500))
        self.with_places((thing("a", at=2), 0), (day(10), 10), (dose(0, 10), 500), (dose(0, 7), 350))


class UntilTest(HouseCase):
    def test_no_such_thing(self):
        self.check((until(0), -2), (thing("a"), 0), (until(1), -2), (until(BIGGEST), -2))

    def test_a_limit_that_is_just_reached_and_one_unit_more(self):
        self.check((place(0, STORE, 9, 10), 1), (thing("a", limit=30, at=1), 0), (until(0), 3),
                   (thing("b", limit=29, at=1), 1), (until(1), 2), (thing("c", limit=31, at=1), 2), (until(2), 3),
                   (thing("d", limit=39, at=1), 3), (until(3), 3), (thing("e", limit=40, at=1), 4), (until(4), 4))

    def test_limit_0(self):
        self.check((place(0, STORE, 9, 10), 1), (day(5), 5), (thing("a", limit=0, at=1), 0), (until(0), 5), (day(1), 6),
                   (until(0), -33))

    def test_light_to_today_is_the_limit_or_one_more(self):
        self.check((place(0, STORE, 9, 10), 1), (thing("a", limit=30, at=1), 0), (thing("b", limit=29, at=1), 1),
                   (day(3), 3), (until(0), 3), (until(1), -33), (move(0, 0), 0), (until(0), 2000), (move(1, 0), 0),
                   (until(1), -33))

    def test_light_0(self):
        self.check((thing("a", limit=0), 0), (until(0), 2000), (day(2000), 2000), (until(0), 2000))

    def test_2000_at_most(self):
        self.check((place(0, STORE, 9, 10), 1), (thing("a", limit=19999, at=1), 0), (thing("b", limit=20000, at=1), 1),
                   (thing("c", limit=20010, at=1), 2), (thing("d", limit=1000000, at=1), 3), (until(0), 1999),
                   (until(1), 2000), (until(2), 2000), (until(3), 2000), (day(2000), 2000), (until(0), -33),
                   (until(1), 2000), (until(2), 2000))

    def test_with_the_light_as_it_holds_today(self):
        self.check((place(0, STORE, 9, 10), 1), (thing("a", limit=100, at=1), 0), (day(4), 4), (until(0), 10),
                   (light(1, 20), 0), (until(0), 7), (light(1, 60), 0), (until(0), 5), (light(1, 61), 0), (until(0), 4),
                   (light(1, 0), 0), (until(0), 2000))

    def test_where_it_is_now(self):
        self.check((place(0, STORE, 9, 10), 1), (place(0, HALL, 9, 25), 2), (thing("a", limit=100), 0), (day(1), 1),
                   (until(0), 2000), (move(0, 1), 0), (until(0), 11), (move(0, 2), 0), (until(0), 5))

    def test_shows_for_which_it_is_booked_do_not_count(self):
        self.check((place(0, HALL, 9, 10), 1), (thing("a", limit=100), 0), (show(1, 3, 9), 0), (book(0, 0), 1),
                   (until(0), 2000))

    def test_a_lent_thing(self):
        self.check((place(0, AWAY, 9, 10), 1), (thing("a", limit=100), 0), (lend(0, 1, 2), 0), (until(0), 10),
                   (day(10), 10), (until(0), 10), (day(1), 11), (until(0), -33))

    def test_harm_does_not_count(self):
        self.check((place(0, HALL, 9, 10), 1), (thing("a", limit=100, at=1), 0), (harm(0, 5), 1), (until(0), 10))


if __name__ == "__main__":
    unittest.main()
