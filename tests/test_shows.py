"""mu_show, mu_book, mu_unbook and mu_hang (points 7 to 9)."""

import unittest

from tests.helper import (AWAY, BIGGEST, HALL, HouseCase, STORE, WORKSHOP, book, day, hang, harm, home, lend, light,
                          move, place, show, thing, unbook)


class ShowTest(HouseCase):
    def with_halls(self, *pairs):
        self.check((place(0, HALL, 2, 0), 1), (place(0, HALL, 2, 0), 2), *pairs)

    def test_the_first_free_place_of_the_list(self):
        self.with_halls((show(1, 0, 1), 0), (show(2, 0, 1), 1), (show(1, 1, 5), 2))

    def test_no_such_place(self):
        self.with_halls((show(3, 0, 1), -2), (show(BIGGEST, 0, 1), -2))

    def test_no_hall(self):
        self.check((place(0, STORE, 1, 0), 1), (place(0, WORKSHOP, 1, 0), 2), (place(0, AWAY, 1, 0), 3),
                   (show(0, 0, 1), -22), (show(1, 0, 1), -22), (show(2, 0, 1), -22), (show(3, 0, 1), -22))

    def test_first_is_not_before_today(self):
        self.with_halls((day(5), 5), (show(1, 4, 9), -22), (show(1, 0, 9), -22), (show(1, 5, 9), 0))

    def test_over_is_after_first(self):
        self.with_halls((show(1, 5, 5), -22), (show(1, 5, 4), -22), (show(1, BIGGEST, 7), -22), (show(1, 5, 6), 0))

    def test_over_is_2000_at_most(self):
        self.with_halls((show(1, 5, 2001), -22), (show(1, 5, BIGGEST), -22), (show(1, 1999, 2000), 0))

    def test_on_the_last_day_none_can_be_planned(self):
        self.with_halls((day(2000), 2000), (show(1, 2000, 2001), -22), (show(1, 2000, 2000), -22))

    def test_shows_in_one_hall_do_not_meet(self):
        self.with_halls((show(1, 5, 9), 0), (show(1, 8, 12), -16), (show(1, 3, 6), -16), (show(1, 6, 7), -16),
                        (show(1, 0, 20), -16), (show(1, 5, 9), -16), (show(1, 9, 12), 1), (show(1, 3, 5), 2),
                        (show(2, 5, 9), 3))

    def test_a_show_that_is_over_counts_for_its_days_alone(self):
        self.with_halls((show(1, 0, 2), 0), (day(2), 2), (show(1, 2, 4), 1), (show(1, 3, 5), -16))

    def test_a_hung_show_meets_like_any(self):
        self.with_halls((show(1, 0, 5), 0), (hang(0), 0), (show(1, 4, 6), -16), (show(1, 5, 6), 1))

    def test_at_most_6(self):
        six = [(show(1, k, k + 1), k) for k in range(6)]
        self.with_halls(*six, (show(1, 6, 7), -28), (show(2, 0, 1), -28), (hang(5), -13), (hang(6), -2))

    def test_order_of_refusals(self):
        six = [(show(1, k, k + 1), k) for k in range(6)]
        self.with_halls(*six, (show(9, 3, 2), -2), (show(0, 3, 2), -22), (show(1, 3, 3), -22), (show(1, 3, 5), -16),
                        (show(1, 5, 2001), -22), (day(1), 1), (show(1, 0, 1), -22), (show(2, 3, 5), -28))

    def test_a_refused_show_is_not_there(self):
        self.with_halls((show(0, 0, 1), -22), (hang(0), -2), (show(1, 0, 1), 0))

    def test_it_is_not_hung_with_nothing_booked(self):
        self.with_halls((thing("a"), 0), (show(1, 0, 1), 0), (unbook(0, 0), -6), (book(0, 0), 1), (hang(0), 1))


# Place 1 is a hall with room for 2, place 2 a hall with room for 3, place 3 away; things 0 to 3.
SETTING = [(place(0, HALL, 2, 0), 1), (place(0, HALL, 3, 0), 2), (place(0, AWAY, 3, 0), 3), (thing("a"), 0),
           (thing("b"), 1), (thing("c"), 2), (thing("d"), 3)]


class BookTest(HouseCase):
    def booking(self, *pairs):
        self.check(*SETTING, *pairs)

    def test_how_many_are_booked(self):
        self.booking((show(2, 0, 1), 0), (book(0, 2), 1), (book(0, 0), 2), (book(0, 3), 3))

    def test_no_such_show_or_thing(self):
        self.booking((book(0, 0), -2), (show(1, 0, 1), 0), (book(1, 0), -2), (book(6, 0), -2), (book(BIGGEST, 0), -2),
                     (book(0, 4), -2), (book(0, BIGGEST), -2), (book(0, 3), 1))

    def test_hung(self):
        self.booking((show(1, 0, 1), 0), (hang(0), 0), (book(0, 0), -15))

    def test_not_twice(self):
        self.booking((show(1, 0, 1), 0), (book(0, 0), 1), (book(0, 0), -17), (book(0, 1), 2))

    def test_lent_beyond_the_first_day(self):
        self.booking((show(1, 5, 9), 0), (lend(0, 3, 6), 0), (book(0, 0), -16), (lend(1, 3, 5), 0), (book(0, 1), 1),
                     (home(0, 0), 0), (book(0, 0), 2))

    def test_lent_and_overdue(self):
        self.booking((lend(0, 3, 2), 0), (day(9), 9), (show(1, 9, 12), 0), (book(0, 0), 1), (hang(0), -16))

    def test_booked_for_a_show_that_meets_it(self):
        self.booking((show(1, 5, 9), 0), (show(2, 8, 12), 1), (show(2, 3, 6), 2), (show(2, 6, 8), 3),
                     (show(2, 1, 3), 4), (show(1, 9, 12), 5), (book(0, 0), 1), (book(1, 0), -16), (book(2, 0), -16),
                     (book(3, 0), -16), (book(4, 0), 1), (book(5, 0), 1), (book(1, 1), 1))

    def test_as_many_as_the_hall_has_room_for(self):
        self.booking((show(1, 0, 1), 0), (book(0, 0), 1), (book(0, 1), 2), (book(0, 2), -12), (unbook(0, 0), 1),
                     (book(0, 2), 2), (book(0, 3), -12))

    def test_what_is_in_the_hall_does_not_hinder_booking(self):
        self.booking((move(0, 1), 0), (move(1, 1), 0), (show(1, 0, 1), 0), (book(0, 2), 1), (book(0, 3), 2))

    def test_harm_does_not_hinder_booking(self):
        self.booking((harm(0, 5), 0), (show(1, 0, 1), 0), (book(0, 0), 1))

    def test_a_show_that_is_over_can_be_booked(self):
        self.booking((show(1, 0, 1), 0), (day(5), 5), (book(0, 0), 1))

    def test_order_of_refusals(self):
        self.booking((show(1, 0, 1), 0), (book(0, 0), 1), (book(0, 1), 2), (book(0, 0), -17), (hang(0), 2),
                     (book(0, 0), -15), (book(0, 9), -2), (book(9, 0), -2), (book(0, 2), -15))
        self.booking((show(1, 5, 9), 0), (show(2, 5, 9), 1), (book(0, 0), 1), (book(0, 1), 2), (book(1, 2), 1),
                     (book(0, 2), -16), (lend(3, 3, 7), 0), (book(0, 3), -16), (home(3, 0), 0), (book(0, 3), -12))

    def test_order_with_too_much_light(self):
        dim = thing("dim", limit=0)
        self.booking((dim, 4), (light(1, 1), 0), (light(2, 1), 0), (show(1, 5, 9), 0), (book(0, 4), -33),
                     (book(0, 0), 1), (book(0, 4), -33), (book(0, 1), 2), (book(0, 4), -12), (lend(4, 3, 7), 0),
                     (book(0, 4), -16))

    def test_a_refused_booking_books_nothing(self):
        self.booking((show(1, 5, 9), 0), (show(2, 5, 9), 1), (book(0, 0), 1), (book(1, 0), -16), (unbook(1, 0), -6),
                     (book(1, 1), 1), (unbook(0, 0), 0), (book(1, 0), 2))


class ReckonedLightTest(HouseCase):
    """What its light will be is just the limit, and one unit more."""

    def just(self, wanted, before, show_number=0):
        """The pairs are made by before(limit), and thing 0 has that limit; then it's booked."""
        for limit, answer in ((wanted, 1), (wanted - 1, -33)):
            if limit >= 0:
                self.check(*before(limit), (book(show_number, 0), answer))

    def test_the_hall_for_each_day_of_the_show(self):
        self.just(40, lambda limit: [(place(0, HALL, 1, 10), 1), (thing("a", limit=limit), 0), (show(1, 0, 4), 0)])

    def test_no_light_at_all(self):
        self.just(0, lambda limit: [(place(0, HALL, 1, 0), 1), (thing("a", limit=limit), 0), (show(1, 0, 4), 0)])

    def test_days_before_the_show_count_where_it_is(self):
        self.just(3 * 5 + 4 * 10, lambda limit: [
            (place(0, HALL, 1, 10), 1), (place(0, STORE, 1, 5), 2), (thing("a", limit=limit, at=2), 0),
            (show(1, 3, 7), 0)])

    def test_where_it_is_now_not_where_it_was(self):
        self.just(2 * 5 + 3 * 7 + 4 * 10, lambda limit: [
            (place(0, HALL, 1, 10), 1), (place(0, STORE, 1, 5), 2), (place(0, STORE, 1, 7), 3),
            (thing("a", limit=limit, at=2), 0), (show(1, 5, 9), 0), (day(2), 2), (move(0, 3), 0)])

    def test_light_as_it_holds_today(self):
        self.just(2 * 5 + 3 * 1 + 4 * 20, lambda limit: [
            (place(0, HALL, 1, 10), 1), (place(0, STORE, 1, 5), 2), (thing("a", limit=limit, at=2), 0),
            (show(1, 5, 9), 0), (day(2), 2), (light(1, 20), 0), (light(2, 900), 0), (light(2, 1), 0)])

    def test_a_show_that_has_begun_counts_from_today(self):
        self.just(2 * 5 + 2 * 10, lambda limit: [
            (place(0, HALL, 1, 10), 1), (place(0, STORE, 1, 5), 2), (thing("a", limit=limit, at=2), 0),
            (show(1, 1, 4), 0), (show(1, 0, 1), 1), (day(2), 2)])

    def test_a_show_that_is_over_adds_nothing(self):
        self.just(9 * 5, lambda limit: [
            (place(0, HALL, 1, 10), 1), (place(0, STORE, 1, 5), 2), (thing("a", limit=limit, at=2), 0),
            (show(1, 1, 4), 0), (day(9), 9)])
        self.just(4 * 5, lambda limit: [
            (place(0, HALL, 1, 10), 1), (place(0, STORE, 1, 5), 2), (thing("a", limit=limit, at=2), 0),
            (show(1, 1, 4), 0), (day(4), 4)])

    def test_with_all_for_which_it_is_booked(self):
        def before(limit):
            return [(place(0, HALL, 1, 10), 1), (place(0, HALL, 1, 100), 2), (place(0, STORE, 1, 1), 3),
                    (thing("a", limit=limit, at=3), 0), (show(1, 2, 5), 0), (show(2, 7, 9), 1), (show(1, 20, 30), 2),
                    (book(0, 0), 1)]
        # Two days where it is, three in one hall, two where it is, two in the other hall; the third show isn't booked.
        self.just(2 + 30 + 2 + 200, before, show_number=1)

    def test_a_show_booked_ahead_of_an_earlier_one(self):
        def before(limit):
            return [(place(0, HALL, 1, 10), 1), (place(0, HALL, 1, 100), 2), (place(0, STORE, 1, 1), 3),
                    (thing("a", limit=limit, at=3), 0), (show(1, 2, 5), 0), (show(2, 7, 9), 1),
                    (light(2, 0), 0), (book(1, 0), 1), (light(2, 100), 0)]
        self.just(2 + 30 + 2 + 200, before)

    def test_booked_shows_that_are_over_do_not_reach_back(self):
        def before(limit):
            return [(place(0, HALL, 1, 50), 1), (place(0, STORE, 1, 1), 2), (thing("a", limit=limit, at=2), 0),
                    (show(1, 0, 2), 0), (show(1, 4, 5), 1), (light(1, 0), 0), (book(0, 0), 1), (light(1, 50), 0),
                    (day(3), 3)]
        self.just(3 + 1 + 50, before, show_number=1)

    def test_while_a_show_hangs(self):
        def before(limit):
            return [(place(0, HALL, 1, 4), 1), (place(0, HALL, 1, 30), 2), (thing("a", limit=limit), 0),
                    (show(1, 0, 3), 0), (show(2, 5, 6), 1), (book(0, 0), 1), (hang(0), 1), (day(1), 1)]
        # It hangs till it's taken down, so the days between the shows count in the first one's hall.
        self.just(4 + 2 * 4 + 2 * 4 + 30, before, show_number=1)

    def test_while_it_is_lent(self):
        self.just(5 * 3 + 2 * 10, lambda limit: [
            (place(0, HALL, 1, 10), 1), (place(0, AWAY, 1, 3), 2), (thing("a", limit=limit), 0), (lend(0, 2, 5), 0),
            (show(1, 5, 7), 0), (day(1), 1)])

    def test_the_hall_may_be_darker_than_where_it_is(self):
        self.just(2 * 100 + 3 * 1, lambda limit: [
            (place(0, HALL, 1, 1), 1), (light(0, 100), 0), (thing("a", limit=limit), 0), (show(1, 2, 5), 0)])

    def test_the_greatest_limit(self):
        self.check((place(0, HALL, 1, 10000), 1), (thing("a", limit=1000000), 0), (show(1, 0, 100), 0),
                   (show(1, 100, 201), 1), (book(1, 0), -33), (book(0, 0), 1))

    def test_more_light_than_any_limit(self):
        self.check((place(0, HALL, 1, 10000), 1), (light(0, 10000), 0), (thing("a"), 0), (show(1, 1999, 2000), 0),
                   (day(1999), 1999), (book(0, 0), -33))

    def test_unbooking_takes_its_light_away(self):
        self.check((place(0, HALL, 1, 10), 1), (thing("a", limit=30), 0), (show(1, 0, 2), 0), (show(1, 2, 4), 1),
                   (book(0, 0), 1), (book(1, 0), -33), (unbook(0, 0), 0), (book(1, 0), 1))


class UnbookTest(HouseCase):
    def booked(self, *pairs):
        self.check(*SETTING, (show(2, 0, 4), 0), (book(0, 0), 1), (book(0, 1), 2), (book(0, 2), 3), *pairs)

    def test_how_many_are_left(self):
        self.booked((unbook(0, 1), 2), (unbook(0, 0), 1), (unbook(0, 2), 0))

    def test_no_such_show(self):
        self.booked((unbook(1, 0), -2), (unbook(6, 0), -2), (unbook(BIGGEST, 0), -2))

    def test_hung(self):
        self.booked((hang(0), 3), (unbook(0, 0), -15))

    def test_not_booked(self):
        self.booked((unbook(0, 3), -6), (unbook(0, 4), -6), (unbook(0, BIGGEST), -6), (unbook(0, 1), 2),
                    (unbook(0, 1), -6))

    def test_order_of_refusals(self):
        self.booked((unbook(1, 9), -2), (hang(0), 3), (unbook(0, 3), -15), (unbook(0, 9), -15))

    def test_it_is_free_again(self):
        self.booked((lend(0, 3, 4), -16), (unbook(0, 0), 2), (lend(0, 3, 4), 0), (hang(0), 2), (move(1, 0), -16))

    def test_only_from_that_show(self):
        self.booked((show(2, 4, 5), 1), (book(1, 0), 1), (unbook(0, 0), 2), (unbook(1, 1), -6), (unbook(1, 0), 0))

    def test_a_refused_call_leaves_it_booked(self):
        self.booked((unbook(0, 3), -6), (book(0, 3), -12), (book(0, 2), -17), (hang(0), 3), (unbook(0, 0), -15),
                    (move(0, 0), -16))


class HangTest(HouseCase):
    def hanging(self, *pairs):
        self.check(*SETTING, *pairs)

    def test_how_many_hang(self):
        self.hanging((show(2, 0, 1), 0), (show(1, 0, 1), 1), (book(0, 0), 1), (book(0, 1), 2), (hang(0), 2),
                     (hang(1), 0))

    def test_no_such_show(self):
        self.hanging((hang(0), -2), (show(1, 0, 1), 0), (hang(1), -2), (hang(6), -2), (hang(BIGGEST), -2))

    def test_not_twice(self):
        self.hanging((show(1, 0, 1), 0), (hang(0), 0), (hang(0), -17))

    def test_only_on_its_days(self):
        self.hanging((show(1, 5, 7), 0), (hang(0), -13), (day(4), 4), (hang(0), -13), (day(1), 5), (hang(0), 0))
        self.hanging((show(1, 5, 7), 0), (day(6), 6), (hang(0), 0))
        self.hanging((show(1, 5, 7), 0), (day(7), 7), (hang(0), -13), (day(1), 8), (hang(0), -13))

    def test_something_is_lent(self):
        self.hanging((lend(1, 3, 1), 0), (show(1, 1, 9), 0), (book(0, 0), 1), (book(0, 1), 2), (day(1), 1),
                     (hang(0), -16), (home(1, 0), 0), (hang(0), 2))

    def test_something_hangs_elsewhere(self):
        self.hanging((show(1, 0, 2), 0), (show(2, 2, 4), 1), (show(2, 4, 6), 2), (book(0, 0), 1), (book(1, 1), 1),
                     (book(1, 0), 2), (book(2, 2), 1), (hang(0), 1), (day(2), 2), (hang(1), -16), (day(2), 4),
                     (hang(2), 1))

    def test_a_show_that_is_not_hung_does_not_hinder(self):
        self.hanging((show(1, 0, 2), 0), (show(2, 2, 4), 1), (book(0, 0), 1), (book(1, 0), 1), (day(2), 2),
                     (hang(1), 1))

    def test_harm(self):
        self.hanging((show(1, 0, 9), 0), (book(0, 0), 1), (book(0, 1), 2), (harm(1, 3), 0), (hang(0), -61),
                     (harm(1, 2), 0), (hang(0), 2))

    def test_harm_of_others_does_not_matter(self):
        self.hanging((harm(2, 5), 0), (show(1, 0, 9), 0), (book(0, 0), 1), (hang(0), 1))

    def test_room_for_all_and_what_else_is_there(self):
        self.hanging((move(2, 1), 0), (show(1, 0, 9), 0), (book(0, 0), 1), (book(0, 1), 2), (hang(0), -12),
                     (move(2, 0), 0), (hang(0), 2))

    def test_what_is_booked_and_there_counts_once(self):
        self.hanging((move(0, 1), 0), (show(1, 0, 9), 0), (book(0, 0), 1), (book(0, 1), 2), (hang(0), 2))
        self.hanging((move(0, 1), 0), (move(2, 1), 0), (show(1, 0, 9), 0), (book(0, 0), 1), (hang(0), 1))

    def test_what_still_hangs_there_takes_room(self):
        self.hanging((show(1, 0, 2), 0), (show(1, 2, 4), 1), (book(0, 0), 1), (book(0, 1), 2), (book(1, 2), 1),
                     (hang(0), 2), (day(2), 2), (hang(1), -12))

    def test_order_of_refusals(self):
        self.hanging((show(1, 0, 1), 0), (hang(0), 0), (day(1), 1), (hang(0), -17))
        self.hanging((show(1, 2, 4), 0), (lend(0, 3, 2), 0), (book(0, 0), 1), (book(0, 1), 2), (harm(1, 3), 0),
                     (move(2, 1), 0), (move(3, 1), 0), (hang(0), -13), (day(2), 2), (hang(0), -16), (home(0, 0), 0),
                     (hang(0), -61), (harm(1, 0), 0), (hang(0), -12), (day(2), 4), (hang(0), -13))
        # What is harmed is booked ahead of what is lent: still the loan is told first.
        self.hanging((lend(1, 3, 2), 0), (show(1, 2, 4), 0), (book(0, 0), 1), (book(0, 1), 2), (harm(0, 3), 0),
                     (day(2), 2), (hang(0), -16))

    def test_all_are_put_there(self):
        self.hanging((place(0, STORE, 2, 0), 4), (move(0, 4), 0), (move(1, 4), 0), (move(2, 4), -12),
                     (show(1, 0, 9), 0), (book(0, 0), 1), (book(0, 1), 2), (hang(0), 2), (move(2, 4), 0),
                     (move(3, 4), 0), (move(2, 1), -12), (harm(0, 3), 1), (harm(1, 3), 1))

    def test_only_what_is_booked_is_put_there(self):
        self.hanging((show(1, 0, 9), 0), (book(0, 0), 1), (hang(0), 1), (harm(1, 3), 0), (move(2, 1), 0),
                     (move(3, 1), -12))

    def test_a_refused_call_hangs_nothing(self):
        self.hanging((move(2, 1), 0), (show(1, 0, 9), 0), (book(0, 0), 1), (book(0, 1), 2), (hang(0), -12),
                     (move(0, 0), 0), (unbook(0, 1), 1), (harm(0, 5), 0), (hang(0), -61), (harm(0, 0), 0),
                     (hang(0), 1))

    def test_light_from_the_day_it_is_hung(self):
        for limit, answer in ((2 * 3 + 4 * 10 + 1, 1), (2 * 3 + 4 * 10, -33)):
            self.check((place(0, HALL, 1, 10), 1), (place(0, STORE, 1, 3), 2), (place(0, HALL, 1, 1), 3),
                       (thing("a", limit=limit, at=2), 0), (show(1, 2, 6), 0), (show(3, 6, 7), 1), (book(0, 0), 1),
                       (day(2), 2), (hang(0), 1), (day(4), 6), (book(1, 0), answer))


if __name__ == "__main__":
    unittest.main()
