"""mu_thing, mu_move, mu_day and mu_harm (points 3 to 5)."""

import unittest

from tests.helper import (AWAY, BIGGEST, HALL, HouseCase, STORE, WORKSHOP, book, day, hang, harm, home, lend, move,
                          names, place, show, thing)


class ThingTest(HouseCase):
    def test_numbers_come_one_by_one(self):
        self.check((thing("vase"), 0), (thing("bowl"), 1), (thing("urn"), 2))

    def test_n(self):
        self.check((thing("abcdefgh", n=9), -22), (thing("abcdefgh", n=BIGGEST), -22), (thing("abcdefgh", n=8), 0),
                   (thing("abcdefgh", n=1), 1), (thing("abcdefgh", n=0), -22))

    def test_place(self):
        self.check((thing("vase", at=1), -2), (thing("vase", at=BIGGEST), -2), (place(0, STORE, 1, 0), 1),
                   (thing("vase", at=1), 0), (thing("bowl", at=2), -2))

    def test_letters(self):
        for byte in (0, 32, 48, 65, 90, 96, 123, 255):
            for at in range(3):
                letters = [97, 98, 122]
                letters[at] = byte
                self.check((thing(letters), -22), (thing([97, 98, 122]), 0))
        self.check((thing("a"), 0), (thing("z"), 1), (thing("az"), 2))

    def test_only_the_first_n_bytes_count(self):
        self.check((thing("vase", n=4, behind=0), 0), (thing("vase", n=4, behind=97), -17),
                   (thing("vase", n=4, behind=255), -17), (thing("vase", n=3, behind=255), 1),
                   (thing([98, 0, 0, 0, 0, 0, 0, 255], n=1), 2), (thing([98, 0], n=2), -22))

    def test_material(self):
        self.check((thing("a", material=8), -22), (thing("a", material=BIGGEST), -22), (thing("a", material=7), 0),
                   (thing("b", material=0), 1))

    def test_limit(self):
        self.check((thing("a", limit=1000001), -22), (thing("a", limit=BIGGEST), -22), (thing("a", limit=1000000), 0),
                   (thing("b", limit=0), 1))

    def test_not_away(self):
        self.check((place(0, AWAY, 5, 0), 1), (thing("a", at=1), -22), (thing("a", at=0), 0))

    def test_each_other_kind(self):
        self.check((place(0, HALL, 5, 0), 1), (place(0, WORKSHOP, 5, 0), 2), (thing("a", at=1), 0),
                   (thing("b", at=2), 1))

    def test_no_name_twice(self):
        self.check((thing("vase"), 0), (thing("vase"), -17), (thing("vases"), 1), (thing("vas"), 2),
                   (thing("esav"), 3), (thing("bowl"), 4), (thing("vas"), -17))

    def test_at_most_24(self):
        many = [(thing(name), k) for k, name in enumerate(names(24))]
        self.check(*many, (place(0, STORE, 24, 0), 1), (thing("yy", at=1), -28), (harm(23, 0), 0), (harm(24, 0), -2))

    def test_full(self):
        self.check((place(0, STORE, 2, 0), 1), (thing("a", at=1), 0), (thing("b", at=1), 1), (thing("c", at=1), -12),
                   (move(0, 0), 0), (thing("c", at=1), 2), (thing("d", at=1), -12))

    def test_order_of_refusals(self):
        bad = dict(material=8, limit=1000001)
        self.check((thing("abcdefgh", n=9, at=5), -22), (thing("A", at=5, **bad), -2), (thing("", at=5), -2),
                   (thing("a"), 0), (thing("a", material=8), -22), (thing("a", limit=1000001), -22),
                   (place(0, AWAY, 5, 0), 1), (thing("a", at=1), -22), (place(0, STORE, 1, 0), 2),
                   (thing("b", at=2), 1), (thing("a", at=2), -17), (thing("A", at=2), -22))
        many = [(thing(name), k) for k, name in enumerate(names(24))]
        self.check(*many, (thing("a"), -17), (thing("zz"), -28), (thing("Z"), -22), (thing("zz", at=1), -2))

    def test_a_refused_thing_is_not_there(self):
        self.check((thing("a", material=8), -22), (harm(0, 0), -2), (thing("a"), 0))

    def test_it_comes_unharmed_and_not_lent(self):
        self.check((place(0, HALL, 1, 0), 1), (place(0, AWAY, 1, 0), 2), (thing("a"), 0), (home(0, 0), -6),
                   (move(0, 1), 0), (lend(0, 2, 1), 0))


class MoveTest(HouseCase):
    def test_no_such_thing_or_place(self):
        self.check((move(0, 0), -2), (thing("a"), 0), (move(0, 0), 0), (move(1, 0), -2), (move(0, 1), -2),
                   (move(BIGGEST, 0), -2), (move(0, BIGGEST), -2))

    def test_not_away(self):
        self.check((place(0, AWAY, 1, 0), 1), (thing("a"), 0), (move(0, 1), -22))

    def test_not_while_lent(self):
        self.check((place(0, AWAY, 1, 0), 1), (thing("a"), 0), (lend(0, 1, 5), 0), (move(0, 0), -17), (day(9), 9),
                   (move(0, 0), -17), (home(0, 0), 0), (move(0, 0), 0))

    def test_not_while_its_show_is_hung(self):
        self.check((place(0, HALL, 2, 0), 1), (thing("a"), 0), (thing("b"), 1), (show(1, 0, 2), 0), (book(0, 0), 1),
                   (move(0, 0), 0), (hang(0), 1), (move(0, 0), -16), (move(0, 1), -16), (move(1, 1), 0), (day(5), 5),
                   (move(0, 0), -16))

    def test_booked_for_a_hung_show_and_another(self):
        self.check((place(0, HALL, 2, 0), 1), (thing("a"), 0), (show(1, 5, 6), 0), (show(1, 0, 2), 1), (book(0, 0), 1),
                   (book(1, 0), 1), (hang(1), 1), (move(0, 0), -16))

    def test_bad_for_a_hall(self):
        self.check((place(0, HALL, 2, 0), 1), (place(0, WORKSHOP, 2, 0), 2), (thing("a"), 0), (harm(0, 2), 0),
                   (move(0, 1), 0), (harm(0, 3), 1), (move(0, 1), -61), (move(0, 2), 0), (move(0, 1), -61),
                   (move(0, 0), 0), (harm(0, 5), 0), (move(0, 1), -61), (harm(0, 2), 0), (move(0, 1), 0))

    def test_full(self):
        self.check((place(0, STORE, 1, 0), 1), (thing("a", at=1), 0), (thing("b"), 1), (move(1, 1), -12),
                   (move(0, 1), 0), (move(0, 0), 0), (move(1, 1), 0), (move(0, 1), -12))

    def test_order_of_refusals(self):
        self.check((place(0, AWAY, 1, 0), 1), (thing("a"), 0), (lend(0, 1, 5), 0), (move(0, 1), -22), (move(1, 1), -2),
                   (move(0, 9), -2))
        self.check((place(0, AWAY, 1, 0), 1), (place(0, HALL, 1, 0), 2), (thing("a"), 0), (thing("b", at=2), 1),
                   (lend(0, 1, 5), 0), (harm(0, 3), 0), (move(0, 2), -17), (home(0, 0), 0), (move(0, 2), -61),
                   (harm(0, 0), 0), (move(0, 2), -12))
        self.check((place(0, HALL, 1, 0), 1), (place(0, HALL, 1, 0), 2), (thing("a"), 0), (thing("b", at=2), 1),
                   (show(1, 0, 5), 0), (book(0, 0), 1), (hang(0), 1), (harm(0, 4), 1), (move(0, 2), -16),
                   (place(0, AWAY, 1, 0), 3), (move(0, 3), -22))

    def test_a_refused_move_moves_nothing(self):
        self.check((place(0, STORE, 1, 0), 1), (thing("a", at=1), 0), (thing("b"), 1), (move(1, 1), -12),
                   (move(0, 0), 0), (thing("c", at=1), 2), (move(2, 0), 0), (move(0, 1), 0))


class DayTest(HouseCase):
    def test_today_is_answered(self):
        self.check((day(1), 1), (day(1), 2), (day(10), 12))

    def test_0_is_refused(self):
        self.check((day(0), -22), (day(1), 1), (day(0), -22), (day(1), 2))

    def test_the_last_day(self):
        self.check((day(2001), -22), (day(2000), 2000), (day(1), -22), (day(0), -22))
        self.check((day(1999), 1999), (day(2), -22), (day(BIGGEST), -22), (day(1), 2000))

    def test_no_show_and_no_loan_ends_by_itself(self):
        self.check((place(0, HALL, 1, 0), 1), (place(0, AWAY, 1, 0), 2), (thing("a"), 0), (thing("b"), 1),
                   (show(1, 0, 1), 0), (book(0, 0), 1), (hang(0), 1), (lend(1, 2, 1), 0), (day(100), 100),
                   (hang(0), -17), (move(0, 0), -16), (move(1, 0), -17))


class HarmTest(HouseCase):
    def test_no_such_thing(self):
        self.check((harm(0, 0), -2), (thing("a"), 0), (harm(1, 0), -2), (harm(BIGGEST, 0), -2))

    def test_levels(self):
        self.check((thing("a"), 0), (harm(0, 6), -22), (harm(0, BIGGEST), -22), *[(harm(0, k), 0) for k in range(6)])

    def test_order_of_refusals(self):
        self.check((harm(0, 6), -2))

    def test_in_a_hall(self):
        self.check((place(0, HALL, 1, 0), 1), (thing("a", at=1), 0),
                   *[(harm(0, k), 1 if k >= 3 else 0) for k in (0, 1, 2, 3, 4, 5, 2, 3)])

    def test_elsewhere(self):
        for kind in (STORE, WORKSHOP):
            self.check((place(0, kind, 1, 0), 1), (thing("a", at=1), 0), (harm(0, 5), 0))
        self.check((place(0, AWAY, 1, 0), 1), (thing("a"), 0), (lend(0, 1, 2), 0), (harm(0, 5), 0))

    def test_within_a_hall_is_not_in_it(self):
        self.check((place(0, HALL, 1, 0), 1), (place(1, STORE, 1, 0), 2), (thing("a", at=2), 0), (harm(0, 5), 0))

    def test_in_a_hall_where_its_show_hangs(self):
        self.check((place(0, HALL, 1, 0), 1), (thing("a"), 0), (show(1, 0, 1), 0), (book(0, 0), 1), (hang(0), 1),
                   (harm(0, 3), 1))

    def test_refused_harm_is_not_its_harm(self):
        self.check((place(0, HALL, 1, 0), 1), (thing("a"), 0), (harm(0, 6), -22), (move(0, 1), 0))

    def test_harm_of_one_is_not_of_another(self):
        self.check((place(0, HALL, 2, 0), 1), (thing("a"), 0), (thing("b"), 1), (harm(0, 3), 0), (move(1, 1), 0),
                   (move(0, 1), -61))


if __name__ == "__main__":
    unittest.main()
