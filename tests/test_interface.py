"""The list of calls, what's given back, and mu_start (point 1)."""

import unittest

from museumhouse import layout
from museumhouse.house import answers
from museumhouse.layout import bytes_at, next_at, numbers_at
from tests.helper import (AWAY, BIGGEST, HALL, HouseCase, STORE, book, cancel, day, dose, down, entry, find, hang, harm,
                          home, inside, lend, light, move, must, names, overdue, place, said, show, start, state, thing,
                          unbook, until, where, write)

EVERY_CALL = [
    start(), place(0, HALL, 3, 50), place(0, AWAY, 1, 7), light(1, 60), thing("vase", 1, 1000, 0), move(0, 1),
    day(1), harm(0, 0), lend(0, 2, 5), home(0, 0), show(1, 1, 3), book(0, 0), unbook(0, 0), hang(0), down(0, 0),
    show(1, 2, 4), cancel(0), where(0, 1), dose(0, 1), until(0), inside(0), overdue(), must(), find("lent"), write("in1"),
    entry(3), state(),
]


class InterfaceTest(unittest.TestCase):
    def test_each_answer_stands_behind_its_length(self):
        line = [number for call in EVERY_CALL for number in call]
        self.assertEqual(answers(line), [
            1, 0, 1, 1, 1, 2, 1, 0, 1, 0, 1, 0, 1, 1, 1, 0, 1, 0, 1, 0, 1, 0, 1, 1, 1, 0, 1, 0, 1, 0, 1, 0, 1, 0,
            1, 0, 1, 60, 1, 2000, 2, 1, 1, 2, 0, 0, 2, 0, 0, 2, 0, 0, 121, 4, 105, 110, 32, 49] + [0] * 116 + [
            14, 16, 3, 4, 1, 1000, 0, 118, 97, 115, 101, 0, 0, 0, 0, 5, 1, 3, 1, 0, 16])

    def test_every_call_stands_there(self):
        self.assertEqual({call[0] for call in EVERY_CALL}, set(range(25)))

    def test_a_refusal_is_one_number(self):
        self.assertEqual(answers([0, 5, 0]), [1, 0, 1, -22])
        refused = [where(0, 0), dose(0, 0), until(0), inside(1), find("or"), write("or"), entry(0), find("", n=121)]
        self.assertEqual(said([start()] + refused), [[0], [-2], [-2], [-2], [-2], [-71], [-71], [-2], [-22]])

    def test_a_list_with_a_start_alone(self):
        self.assertEqual(answers([0]), [1, 0])

    def test_what_is_given_back_is_a_list_of_whole_numbers(self):
        given = answers([number for call in EVERY_CALL for number in call])
        self.assertIs(type(given), list)
        self.assertEqual([type(number) for number in given], [int] * len(given))

    def test_the_list_handed_in_is_as_it_was(self):
        line = [number for call in EVERY_CALL for number in call]
        before = list(line)
        answers(line)
        self.assertEqual(line, before)

    def test_the_list_handed_in_is_never_written_to(self):
        class Sealed(list):
            def refuse(self, *given):
                raise AssertionError("written to")
            append = extend = insert = pop = remove = clear = sort = reverse = refuse
            __setitem__ = __delitem__ = __iadd__ = __imul__ = refuse
        line = Sealed([number for call in EVERY_CALL for number in call])
        self.assertEqual(answers(line), answers(list(line)))

    def test_nothing_is_kept_from_one_time_to_the_next(self):
        line = [number for call in EVERY_CALL for number in call]
        first = answers(line)
        self.assertEqual(answers([0] + place(0, STORE, 1, 0)), [1, 0, 1, 1])
        self.assertEqual(answers(line), first)

    def test_a_line_of_a_thousand_calls(self):
        told = said([start()] + [move(BIGGEST, BIGGEST)] * 999)
        self.assertEqual(told, [[0]] + [[-2]] * 999)


class LayoutTest(unittest.TestCase):
    """Where each of the 25 calls ends, and what of it counts."""

    def test_the_numbers_of_the_calls(self):
        names = ("START PLACE LIGHT THING MOVE DAY HARM LEND HOME SHOW BOOK UNBOOK HANG DOWN CANCEL WHERE DOSE UNTIL "
                 "INSIDE OVERDUE MUST FIND WRITE ENTRY STATE").split()
        self.assertEqual([getattr(layout, name) for name in names], list(range(25)))

    def test_every_call_is_as_long_as_told(self):
        lengths = [1, 5, 3, 14, 3, 2, 3, 4, 3, 4, 3, 3, 2, 3, 2, 3, 3, 2, 2, 1, 1, 123, 123, 2, 1]
        for call, length in enumerate(lengths):
            with self.subTest(call=call):
                numbers = list(range(100, 100 + length - 1))
                if call == 3:
                    numbers[4] = 8
                if call in (21, 22):
                    numbers[1] = 120
                line = [0, call] + numbers
                self.assertEqual(next_at(line, 1), len(line))
                count = {3: 4, 21: 1, 22: 1}.get(call, length - 1)
                self.assertEqual(numbers_at(line, 1), numbers[:count])

    def test_of_a_row_the_first_n_count(self):
        row = [97, 98, 99, 100, 101, 102, 103, 104]
        for n in (0, 1, 7, 8):
            self.assertEqual(bytes_at([0, 3, n, 0, 0, 0, 8] + row, 1), row[:n])
        text = list(range(120))
        for n in (0, 1, 119, 120):
            self.assertEqual(bytes_at([0, 21, n, 120] + text + [24], 1), text[:n])
            self.assertEqual(bytes_at([0, 22, n, 120] + text + [24], 1), text[:n])

    def test_a_row_is_not_read_beyond_its_end(self):
        line = [0] + thing("abcdefgh", n=9) + day(3)
        self.assertEqual(bytes_at(line, 1), [97, 98, 99, 100, 101, 102, 103, 104])

    def test_a_call_without_a_row_has_no_bytes(self):
        self.assertEqual(bytes_at([0] + move(0, 0) + day(3), 1), [])


class StartTest(HouseCase):
    def test_the_house_alone(self):
        self.check((light(0, 5), 0), (light(1, 5), -2))
        self.check((harm(0, 0), -2))
        self.check((unbook(0, 0), -2), (hang(0), -2))

    def test_today_is_0(self):
        self.check((day(2000), 2000))

    def test_the_house_is_a_store_with_room_for_24(self):
        self.check((show(0, 0, 1), -22))
        self.check(*[(thing(name), k) for k, name in enumerate(names(24))])
        pairs = [(place(0, STORE, 24, 0), 1)]
        pairs += [(thing(name), k) for k, name in enumerate(names(23))]
        self.check(*pairs, (thing("x", at=1), 23), (move(23, 0), 0))

    def test_the_house_is_no_hall_and_not_away(self):
        self.check((thing("vase"), 0), (place(0, AWAY, 1, 0), 1), (lend(0, 0, 1), -22), (harm(0, 3), 0),
                   (move(0, 0), 0))

    def test_the_house_has_no_light(self):
        self.check((place(0, HALL, 1, 0), 1), (thing("vase", limit=0), 0), (day(100), 100), (show(1, 200, 300), 0),
                   (book(0, 0), 1))

    def test_a_second_start_begins_anew(self):
        self.check(
            (place(0, HALL, 2, 9), 1), (place(0, AWAY, 2, 9), 2), (light(0, 70), 0), (thing("vase"), 0), (day(5), 5),
            (show(1, 5, 9), 0), (book(0, 0), 1), (hang(0), 1),
            (start(), 0),
            (light(1, 0), -2), (harm(0, 0), -2), (hang(0), -2), (unbook(0, 0), -2),
            (place(0, HALL, 2, 0), 1), (thing("vase", limit=0), 0), (show(1, 0, 1), 0), (book(0, 0), 1), (hang(0), 1),
            (day(2000), 2000))

    def test_a_second_start_right_behind_the_first(self):
        self.check((start(), 0), (start(), 0), (place(0, STORE, 1, 0), 1))


if __name__ == "__main__":
    unittest.main()
