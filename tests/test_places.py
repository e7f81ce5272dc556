"""mu_place and mu_light (point 2)."""

import unittest

from tests.helper import (AWAY, BIGGEST, HALL, HouseCase, STORE, WORKSHOP, book, day, lend, light, move, place, show,
                          thing)


class PlaceTest(HouseCase):
    def test_numbers_come_one_by_one(self):
        self.check((place(0, STORE, 1, 0), 1), (place(1, HALL, 24, 10000), 2), (place(0, WORKSHOP, 2, 3), 3),
                   (place(2, AWAY, 5, 1), 4))

    def test_no_place_up(self):
        self.check((place(1, STORE, 1, 0), -2), (place(BIGGEST, STORE, 1, 0), -2), (place(0, STORE, 1, 0), 1),
                   (place(2, STORE, 1, 0), -2), (place(1, STORE, 1, 0), 2))

    def test_kinds(self):
        self.check((place(0, 3, 1, 0), 1), (place(0, 4, 1, 0), -22), (place(0, BIGGEST, 1, 0), -22))

    def test_room(self):
        self.check((place(0, 0, 0, 0), -22), (place(0, 0, 1, 0), 1), (place(0, 0, 24, 0), 2),
                   (place(0, 0, 25, 0), -22), (place(0, 0, BIGGEST, 0), -22))

    def test_light(self):
        self.check((place(0, 0, 1, 0), 1), (place(0, 0, 1, 10000), 2), (place(0, 0, 1, 10001), -22),
                   (place(0, 0, 1, BIGGEST), -22))

    def test_at_most_12_with_the_house(self):
        eleven = [(place(0, 0, 1, 0), k) for k in range(1, 12)]
        self.check(*eleven, (place(0, 0, 1, 0), -28), (place(11, 0, 1, 0), -28), (light(11, 1), 0), (light(12, 1), -2))

    def test_order_of_refusals(self):
        eleven = [(place(0, 0, 1, 0), k) for k in range(1, 12)]
        self.check(*eleven, (place(12, 4, 0, 10001), -2), (place(12, 0, 1, 0), -2), (place(0, 4, 1, 0), -22),
                   (place(0, 0, 25, 0), -22), (place(0, 0, 1, 10001), -22))
        self.check((place(1, 4, 0, 10001), -2))

    def test_a_refused_place_is_not_there(self):
        self.check((place(1, 0, 1, 0), -2), (place(0, 4, 1, 0), -22), (light(1, 0), -2), (place(0, 0, 1, 0), 1))

    def test_each_kind_is_what_it_is(self):
        self.check((place(0, STORE, 2, 0), 1), (place(0, HALL, 2, 0), 2), (place(0, WORKSHOP, 2, 0), 3),
                   (place(0, AWAY, 2, 0), 4), (show(1, 0, 1), -22), (show(2, 0, 1), 0), (show(3, 0, 1), -22),
                   (show(4, 0, 1), -22), (thing("vase"), 0), (move(0, 1), 0), (move(0, 2), 0), (move(0, 3), 0),
                   (move(0, 4), -22), (lend(0, 1, 1), -22), (lend(0, 2, 1), -22), (lend(0, 3, 1), -22),
                   (lend(0, 4, 1), 0))

    def test_room_counts_things_there_alone(self):
        self.check((place(0, STORE, 2, 0), 1), (place(1, STORE, 1, 0), 2), (thing("a", at=2), 0), (thing("b", at=1), 1),
                   (thing("c", at=1), 2), (thing("d", at=1), -12))


class LightTest(HouseCase):
    def test_refusals(self):
        self.check((light(1, 0), -2), (light(BIGGEST, 0), -2), (light(0, 10000), 0), (light(0, 0), 0),
                   (light(0, 10001), -22), (light(0, BIGGEST), -22))

    def test_order_of_refusals(self):
        self.check((light(1, 10001), -2))

    def reckoned(self, before, wanted):
        """After these pairs thing 0, with the limit its light to today, can be shown in the dark; with less not."""
        for limit, answer in ((wanted, 1), (wanted - 1, -33)):
            if limit < 0:
                continue
            pairs = [(place(0, HALL, 5, 0), 1), (thing("vase", limit=limit), 0)]
            pairs += before
            today = sum(call[1] for call, told in before if call[0] == 5)
            pairs += [(show(1, today, today + 1), 0), (book(0, 0), answer)]
            self.check(*pairs)

    def test_light_of_the_place_adds_up(self):
        self.reckoned([], 0)
        self.reckoned([(light(0, 10), 0)], 0)
        self.reckoned([(light(0, 10), 0), (day(1), 1)], 10)
        self.reckoned([(light(0, 10), 0), (day(7), 7)], 70)

    def test_light_of_a_new_place_holds_from_today_on(self):
        self.reckoned([(day(2), 2), (place(0, STORE, 1, 30), 2), (move(0, 2), 0), (day(3), 5)], 90)

    def test_light_holds_till_it_is_told_again(self):
        self.reckoned([(light(0, 10), 0), (day(2), 2), (light(0, 3), 0), (day(4), 6), (light(0, 0), 0), (day(9), 15)],
                      32)

    def test_of_what_is_told_on_one_day_the_last_holds(self):
        self.reckoned([(light(0, 10), 0), (light(0, 9999), 0), (light(0, 4), 0), (day(3), 3)], 12)
        self.reckoned([(light(0, 10), 0), (day(2), 2), (light(0, 10000), 0), (light(0, 1), 0), (day(2), 4)], 22)

    def test_light_told_today_leaves_the_past(self):
        self.reckoned([(light(0, 10), 0), (day(5), 5), (light(0, 10000), 0)], 50)

    def test_refused_light_does_not_hold(self):
        self.reckoned([(light(0, 10), 0), (light(0, 10001), -22), (light(2, 5), -2), (day(2), 2)], 20)

    def test_light_of_a_place_above_or_within_does_not_count(self):
        self.reckoned([(place(0, STORE, 1, 6), 2), (light(0, 1000), 0), (place(2, STORE, 1, 500), 3), (move(0, 2), 0),
                       (day(4), 4)], 24)

    def test_the_most_light(self):
        self.reckoned([(light(0, 10000), 0), (day(100), 100)], 1000000)

    def test_of_several_places_on_one_day_the_last_counts(self):
        self.reckoned([(place(0, STORE, 1, 100), 2), (place(0, STORE, 1, 7), 3), (move(0, 2), 0), (move(0, 3), 0),
                       (day(1), 1), (move(0, 2), 0), (move(0, 0), 0), (day(1), 2)], 7)
        self.reckoned([(place(0, STORE, 1, 100), 2), (place(0, STORE, 1, 7), 3), (move(0, 3), 0), (move(0, 2), 0),
                       (day(1), 1), (move(0, 0), 0), (move(0, 2), 0), (move(0, 3), 0), (day(2), 3)], 114)

    def test_days_before_it_came_do_not_count(self):
        self.check((light(0, 50), 0), (place(0, HALL, 5, 0), 1), (day(10), 10), (thing("vase", limit=100), 0),
                   (thing("bowl", limit=99), 1), (day(2), 12), (light(0, 0), 0), (show(1, 12, 13), 0), (book(0, 0), 1),
                   (book(0, 1), -33))

    def test_light_away_counts(self):
        self.reckoned([(place(0, AWAY, 1, 8), 2), (lend(0, 2, 5), 0), (day(5), 5)], 40)


if __name__ == "__main__":
    unittest.main()
