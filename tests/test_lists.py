"""mu_inside, mu_overdue and mu_must (point 11)."""

import unittest

from tests.helper import (AWAY, BIGGEST, HALL, HouseCase, STORE, WORKSHOP, bits, day, harm, home, inside, lend, light,
                          move, must, names, overdue, place, thing)


class InsideTest(HouseCase):
    def test_no_such_place(self):
        self.check((inside(1), -2), (inside(BIGGEST), -2), (inside(0), bits()), (place(0, STORE, 1, 0), 1),
                   (inside(1), bits()), (inside(2), -2))

    def test_at_the_place_itself(self):
        self.check((place(0, STORE, 3, 0), 1), (place(0, STORE, 3, 0), 2), (thing("a", at=1), 0), (thing("b", at=2), 1),
                   (thing("c", at=1), 2), (inside(1), [2, 5]), (inside(2), [1, 2]), (inside(0), [3, 7]))

    def test_a_place_within_a_place_within_a_place(self):
        self.check((place(0, STORE, 3, 0), 1), (place(1, HALL, 3, 0), 2), (place(2, STORE, 3, 0), 3),
                   (place(1, STORE, 3, 0), 4), (place(0, STORE, 3, 0), 5), (thing("a", at=3), 0), (thing("b", at=2), 1),
                   (thing("c", at=1), 2), (thing("d", at=4), 3), (thing("e", at=5), 4), (thing("f"), 5),
                   (inside(3), bits(0)), (inside(2), bits(0, 1)), (inside(1), bits(0, 1, 2, 3)), (inside(4), bits(3)),
                   (inside(5), bits(4)), (inside(0), bits(0, 1, 2, 3, 4, 5)))

    def test_eleven_places_one_within_another(self):
        chain = [(place(k, STORE, 1, 0), k + 1) for k in range(11)]
        self.check(*chain, (thing("a", at=11), 0), *[(inside(k), bits(0)) for k in range(12)], (inside(12), -2),
                   (move(0, 5), 0), *[(inside(k), bits(0)) for k in range(6)], *[(inside(k), bits()) for k in range(6, 12)])

    def test_thing_23_as_a_bit(self):
        many = [(thing(name), k) for k, name in enumerate(names(23))]
        self.check((place(0, STORE, 1, 0), 1), *many, (thing("x", at=1), 23), (inside(1), [1, 8388608]),
                   (inside(0), [24, 16777215]))

    def test_where_they_are_now(self):
        self.check((place(0, STORE, 3, 0), 1), (thing("a"), 0), (inside(1), bits()), (move(0, 1), 0), (inside(1), bits(0)),
                   (day(1), 1), (inside(1), bits(0)), (move(0, 0), 0), (inside(1), bits()))

    def test_a_lent_thing_is_at_the_place_away(self):
        self.check((place(0, STORE, 3, 0), 1), (place(1, AWAY, 3, 0), 2), (thing("a"), 0), (lend(0, 2, 5), 0),
                   (inside(2), bits(0)), (inside(1), bits(0)), (inside(0), bits(0)))


class OverdueTest(HouseCase):
    def test_none(self):
        self.check((overdue(), bits()), (thing("a"), 0), (day(2000), 2000), (overdue(), bits()))

    def test_its_day_to_be_back_and_the_day_after(self):
        self.check((place(0, AWAY, 3, 0), 1), (thing("a"), 0), (lend(0, 1, 5), 0), (overdue(), bits()), (day(4), 4),
                   (overdue(), bits()), (day(1), 5), (overdue(), bits()), (day(1), 6), (overdue(), bits(0)),
                   (day(100), 106), (overdue(), bits(0)), (home(0, 0), 0), (overdue(), bits()))

    def test_those_alone_that_are_lent_too_long(self):
        self.check((place(0, AWAY, 9, 0), 1), (thing("a"), 0), (thing("b"), 1), (thing("c"), 2), (thing("d"), 3),
                   (thing("e"), 4), (lend(4, 1, 2), 0), (lend(1, 1, 3), 0), (lend(2, 1, 4), 0), (day(3), 3),
                   (overdue(), bits(4)), (day(1), 4), (overdue(), bits(1, 4)), (home(4, 0), 0), (overdue(), bits(1)),
                   (day(1), 5), (overdue(), bits(1, 2)))

    def test_lent_again(self):
        self.check((place(0, AWAY, 9, 0), 1), (thing("a"), 0), (lend(0, 1, 1), 0), (day(2), 2), (overdue(), bits(0)),
                   (home(0, 0), 0), (lend(0, 1, 3), 0), (overdue(), bits()), (day(2), 4), (overdue(), bits(0)))

    def test_till_day_2000(self):
        self.check((place(0, AWAY, 9, 0), 1), (thing("a"), 0), (thing("b"), 1), (lend(0, 1, 2000), 0),
                   (lend(1, 1, 1999), 0), (day(2000), 2000), (overdue(), bits(1)))

    def test_thing_23_as_a_bit(self):
        many = [(thing(name), k) for k, name in enumerate(names(24))]
        self.check((place(0, AWAY, 1, 0), 1), *many, (lend(23, 1, 1), 0), (day(2), 2), (overdue(), [1, 8388608]))


class MustTest(HouseCase):
    def with_hall(self, *pairs):
        self.check((place(0, HALL, 9, 10), 1), (place(0, WORKSHOP, 9, 10), 2), *pairs)

    def test_none(self):
        self.check((must(), bits()))
        self.with_hall((thing("a", at=1), 0), (must(), bits()))

    def test_harm_of_2_and_3(self):
        self.with_hall((thing("a", at=1), 0), (thing("b", at=1), 1), (harm(0, 2), 0), (must(), bits()), (harm(0, 3), 1),
                       (must(), bits(0)), (harm(1, 5), 1), (must(), bits(0, 1)), (harm(0, 2), 0), (must(), bits(1)))

    def test_in_a_hall_alone(self):
        self.with_hall((thing("a", at=2), 0), (thing("b"), 1), (thing("c", at=2, limit=0), 2), (harm(0, 5), 0),
                       (harm(1, 3), 0), (day(1), 1), (must(), bits()), (move(2, 1), 0), (must(), bits(2)),
                       (move(2, 0), 0), (must(), bits()))

    def test_light_that_is_just_the_limit_and_one_unit_more(self):
        self.with_hall((thing("a", at=1, limit=20), 0), (thing("b", at=1, limit=19), 1), (day(2), 2), (must(), bits(1)),
                       (day(1), 3), (must(), bits(0, 1)), (light(1, 0), 0), (must(), bits(0, 1)))

    def test_light_from_elsewhere_counts(self):
        self.with_hall((thing("a", at=2, limit=20), 0), (day(3), 3), (must(), bits()), (move(0, 1), 0), (must(), bits(0)))

    def test_limit_0(self):
        self.with_hall((thing("a", at=1, limit=0), 0), (must(), bits()), (day(1), 1), (must(), bits(0)))

    def test_both_at_once_is_one_thing(self):
        self.with_hall((thing("a", at=1, limit=0), 0), (day(1), 1), (harm(0, 4), 1), (must(), bits(0)))

    def test_a_hall_within_a_store_and_a_store_within_a_hall(self):
        self.check((place(0, STORE, 3, 0), 1), (place(1, HALL, 3, 0), 2), (place(2, STORE, 3, 0), 3),
                   (thing("a", at=2), 0), (thing("b", at=3), 1), (harm(0, 3), 1), (harm(1, 3), 0), (must(), bits(0)))

    def test_thing_23_as_a_bit(self):
        many = [(thing(name), k) for k, name in enumerate(names(23))]
        self.with_hall(*many, (thing("x", at=1), 23), (harm(23, 3), 1), (must(), [1, 8388608]))


if __name__ == "__main__":
    unittest.main()
