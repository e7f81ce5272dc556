"""What holds over the whole program, each sentence over lines of many calls."""

import random
import unittest

from museumhouse.changes import change
from museumhouse.museum import Museum
from tests.chance import line_with_answers
from tests.grammar import NoQuestion, chance_texts, parts_of, tree_of
from tests.helper import (AWAY, HALL, HouseCase, STORE, book, cancel, day, dose, down, entry, find, hang, harm, home, inside,
                          lend, light, move, must, names, overdue, place, said, show, start, state, thing, unbook, until,
                          where, write)


def lines(count, length, step=5, lights=(0, 1, 2, 5, 10, 50), asks=False):
    """Lines with one start alone."""
    for seed in range(1000, 1000 + count):
        calls, wanted = line_with_answers(seed, list(lights), step, length, asks)
        yield [start()] + [call for call in calls if call != start()]


def probes(line):
    """Calls that ask all that can be asked of the house behind the line."""
    today, places, things, shows, entries = said(line + [state()])[-1]
    found = [state(), overdue(), must(), find("lent"), find("shown")]
    found += [inside(k) for k in range(places)] + [entry(k) for k in range(entries)]
    for k in range(things):
        found += [until(k)] + [where(k, on) for on in range(today + 1)] + [dose(k, on) for on in range(today + 1)]
    return found


def house_of(line):
    """All that's answered to these."""
    asked = probes(line)
    return asked, said(line + asked)[len(line):]


def kept_of(museum):
    """All that a museum keeps, as texts of lists and dicts."""
    def plain(kept):
        return kept if kept is None else {name: repr(value) for name, value in vars(kept).items()}
    return [museum.today, [plain(kept) for kept in museum.places], [plain(kept) for kept in museum.things],
            [plain(kept) for kept in museum.shows], museum.entries]


def do(museum, call):
    if call[0] == 3:
        return change(museum, 3, call[1:5], call[6:6 + min(call[1], 8)])
    return change(museum, call[0], call[1:], [])


def entries_again(line):
    """The calls that the line's entries tell, each in the form in which it's made."""
    count = said(line + [state()])[-1][4]
    told = said(line + [entry(k) for k in range(count)])[len(line):]
    lengths = [0, 4, 2, 4, 2, 1, 2, 3, 2, 3, 2, 2, 1, 2, 1]
    calls = []
    for total, call, *numbers in told:
        given = numbers[:lengths[call]]
        if call == 3:
            calls.append([3] + given + [8] + numbers[4:4 + given[0]] + [0] * (8 - given[0]))
        else:
            calls.append([call] + given)
    return calls


class PastTest(HouseCase):
    def test_the_past_stays(self):
        seen = 0
        for line in lines(12, 120):
            past = {}
            for end in range(10, len(line) + 1, 10):
                head = line[:end]
                today = said(head + [state()])[-1][0]
                asked, told = house_of(head)
                for call, answer in zip(asked, told):
                    if call[0] in (15, 16):
                        # Where it is today may yet change; what light it had to today may not.
                        known = past.setdefault(tuple(call), answer) if call[0] == 16 or call[2] < today else answer
                        self.assertEqual(answer, known, call)
            seen += len(past)
        self.assertGreater(seen, 1000)

    def test_no_single_call_changes_it(self):
        head = [start(), place(0, HALL, 3, 10), place(0, AWAY, 3, 5), place(0, STORE, 3, 1), thing("a", at=1), thing("b"),
                thing("c"), show(1, 0, 9), book(0, 1), day(3), hang(0), lend(2, 2, 5), day(2), light(1, 20), day(1)]
        asked = [call(k, on) for call in (where, dose) for k in range(3) for on in range(6)] + [dose(k, 6) for k in range(3)]
        before = said(head + asked)[len(head):]
        for call in (place(0, HALL, 2, 99), light(0, 77), light(1, 77), light(2, 77), light(3, 77), thing("d", at=1),
                     move(0, 3), move(0, 0), day(1), day(500), harm(0, 3), harm(1, 5), lend(0, 2, 9), home(2, 3), home(2, 1),
                     show(1, 20, 30), book(0, 0), unbook(0, 1), hang(0), down(0, 3), down(0, 0), cancel(0), state()):
            self.assertEqual(said(head + [call] + asked)[len(head) + 1:], before, call)


class ClashTest(HouseCase):
    def each_museum(self):
        """Every museum that the lines come by."""
        for line in lines(40, 300):
            museum = Museum()
            for call in line[1:]:
                if do(museum, call) >= 0:
                    yield museum

    def days(self, kept):
        return set(range(kept.first, kept.over))

    def test_no_clash(self):
        seen = 0
        for museum in self.each_museum():
            shows = [kept for kept in museum.shows if kept is not None]
            for k, one in enumerate(shows):
                for other in shows[:k]:
                    if self.days(one) & self.days(other):
                        self.assertNotEqual(one.hall, other.hall)
                        self.assertEqual(set(one.booked) & set(other.booked), set())
                if one.hung:
                    for number in one.booked:
                        self.assertEqual(museum.things[number].place, one.hall)
                        self.assertIsNone(museum.things[number].back)
                        seen += 1
        self.assertGreater(seen, 100)

    def test_lent_things_and_no_others_are_away(self):
        seen = 0
        for museum in self.each_museum():
            for kept in museum.things:
                away = museum.places[kept.place].kind == AWAY
                self.assertEqual(kept.back is not None, away)
                seen += away
        self.assertGreater(seen, 100)

    def test_one_place_each_and_room_for_all(self):
        for museum in self.each_museum():
            there = [kept.place for kept in museum.things]
            for number, kept in enumerate(museum.places):
                self.assertLessEqual(there.count(number), kept.room)
            self.assertLess(max(there, default=0), len(museum.places))

    def test_one_place_each_as_it_is_told(self):
        for line in lines(20, 200):
            today, places, things, shows, entries = said(line + [state()])[-1]
            told = said(line + [where(k, today) for k in range(things)] + [inside(k) for k in range(places)])
            at = [answer[0] for answer in told[len(line):len(line) + things]]
            rooms = [24] + [call[3] for call in entries_again(line) if call[0] == 1]
            for number in range(places):
                self.assertLessEqual(at.count(number), rooms[number])
            self.assertEqual(told[len(line) + things], [things, 2 ** things - 1])
            for k in range(things):
                count, found = told[len(line) + things + at[k]]
                self.assertTrue(found >> k & 1)


class ReckonedTest(HouseCase):
    def line(self, chance, limit):
        """A thing comes somewhere and is moved; then a show is planned. What follows is told apart."""
        def units():
            return chance.choice([0, 1, 7, 100, 333])
        head = [start(), place(0, HALL, 3, units()), place(0, STORE, 3, units()), place(0, STORE, 3, units()),
                light(0, units()), day(chance.randrange(1, 5)), thing("a", limit=limit, at=chance.randrange(4)),
                day(chance.randrange(1, 9)), light(chance.randrange(4), units()), move(0, chance.randrange(4)),
                day(chance.randrange(1, 9)), light(chance.randrange(4), units()), move(0, chance.randrange(4))]
        today = sum(call[1] for call in head if call[0] == 5)
        first = today + chance.randrange(7)
        over = first + chance.randrange(1, 30)
        wait = [day(first - today)] if first > today else []
        return head + [show(1, first, over), book(0, 0)], wait + [hang(0), day(over - first), down(0, 0), dose(0, over)]

    def test_as_it_was_reckoned(self):
        for seed in range(60):
            head, tail = self.line(random.Random(seed), 1000000)
            light_had = said(head + tail)[-1][0]
            self.assertGreaterEqual(light_had, 0)
            # What was reckoned is the least limit with which it isn't refused.
            head, tail = self.line(random.Random(seed), light_had)
            self.assertEqual(said(head)[-1], [1])
            self.assertEqual(said(head + tail)[-1], [light_had])
            if light_had:
                head, tail = self.line(random.Random(seed), light_had - 1)
                self.assertEqual(said(head)[-1], [-33])


class TillThenTest(HouseCase):
    def test_till_then(self):
        seen = set()
        for seed in range(60):
            chance = random.Random(seed)
            units = chance.choice([0, 1, 7, 100, 5000, 10000])
            limit = chance.choice([0, 1, 6, 7, 8, 99, 100, 101, 5000, 20000, 1000000])
            passed = chance.randrange(1, 12)
            head = [start(), place(0, STORE, 3, chance.choice([0, 1, 7])), place(0, STORE, 3, units),
                    thing("a", limit=limit, at=1), day(passed), move(0, 2)]
            told = said(head + [until(0), dose(0, passed)])
            till, had = told[-2][0], told[-1][0]
            if had > limit:
                self.assertEqual(till, -33)
                seen.add("more")
                continue
            stay = [day(till - passed)] if till > passed else []
            self.assertLessEqual(said(head + stay + [dose(0, till)])[-1][0], limit)
            if till < 2000:
                self.assertGreater(said(head + stay + [day(1), dose(0, till + 1)])[-1][0], limit)
            seen.add("end" if till == 2000 else "today" if till == passed else "later")
        self.assertEqual(seen, {"more", "end", "today", "later"})


class QuestionTest(HouseCase):
    # A house in which the claims are of some things so, of others not.
    HOUSE = [start(), place(0, HALL, 9, 10), place(0, STORE, 9, 1), place(2, STORE, 9, 0), place(0, AWAY, 9, 5),
             thing("a", 1, 100, 1), thing("b", 2, 10, 2), thing("c", 3, 50, 3), day(2), thing("d", 4, 5, 0), harm(1, 2),
             thing("e", 5, 1000, 2), harm(3, 5), lend(4, 4, 3), thing("f", 0, 0, 1), harm(0, 1), day(3)]

    def tree(self, text):
        try:
            return tree_of(parts_of(text))
        except NoQuestion:
            return None

    def test_written_and_read_again_the_same(self):
        kinds = set()
        for text in chance_texts(5, 3000):
            told = said(self.HOUSE + [write(text), find(text)])[-2:]
            tree = self.tree(text.encode())
            if told[0] == [-71]:
                self.assertEqual((told[1], tree), ([-71], None), text)
                kinds.add("none")
            elif told[0] == [-75]:
                self.assertIsNotNone(tree)
                kinds.add("long")
            else:
                again = told[0][1:1 + told[0][0]]
                self.assertEqual(self.tree(bytes(again)), tree, text)
                self.assertEqual(said(self.HOUSE + [write(again), find(again)])[-2:], told, text)
                kinds.add("brackets" if 40 in again else "plain")
        self.assertEqual(kinds, {"none", "long", "brackets", "plain"})

    def test_no_pair_of_brackets_can_go(self):
        for text in chance_texts(6, 800):
            told = said([start(), write(text)])[-1]
            if told[0] < 0:
                continue
            parts = parts_of(bytes(told[1:1 + told[0]]))
            for at, part in enumerate(parts):
                if part == "(":
                    depth = 0
                    for end in range(at, len(parts)):
                        depth += {"(": 1, ")": -1}.get(parts[end], 0)
                        if depth == 0:
                            break
                    fewer = " ".join(parts[:at] + parts[at + 1:end] + parts[end + 1:]).encode()
                    self.assertNotEqual(self.tree(fewer), self.tree(text.encode()), text)

    def test_as_they_are_meant(self):
        def found(text):
            told = said(self.HOUSE + [find(text)])[-1]
            return {k for k in range(24) if told[1] >> k & 1}
        every = found("all")
        texts = [text for text in chance_texts(7, 300) if len(text) < 55 and self.tree(text.encode()) is not None]
        for one, other in zip(texts, texts[1:]):
            self.assertEqual(found(f"not({one})"), every - found(one))
            self.assertEqual(found(f"({one})and({other})"), found(one) & found(other))
            self.assertEqual(found(f"({one})or({other})"), found(one) | found(other))


class AgainTest(HouseCase):
    def test_played_again(self):
        for line in lines(25, 300):
            again = entries_again(line)
            self.assertGreater(len(again), 40)
            told = said([start()] + again)
            self.assertEqual([answer for answer in told if answer[0] < 0], [])
            self.assertEqual(house_of([start()] + again), house_of(line))
            # In one line too, behind the first house.
            self.assertEqual(house_of(line + [start()] + again), house_of(line))

    def test_the_same_house_in_all_that_is_kept(self):
        for line in lines(25, 300):
            first, second = Museum(), Museum()
            for call in line[1:]:
                do(first, call)
            for call in entries_again(line):
                self.assertGreaterEqual(do(second, call), 0)
            self.assertEqual(kept_of(second), kept_of(first))

    def test_the_same_answers_from_there_on(self):
        for line in lines(10, 300):
            head, tail = line[:150], line[150:]
            again = [start()] + entries_again(head)
            self.assertEqual(said(again + tail)[len(again):], said(head + tail)[len(head):])

    def test_a_log_that_is_full(self):
        line = [start(), thing("abcdefgh", 7, 1000000, 0), thing("z")] + [light(0, k % 9) for k in range(390)]
        line += [day(1)] * 20 + [move(0, 0)] * 5
        again = entries_again(line)
        self.assertEqual(len(again), 400)
        self.assertEqual(house_of([start()] + again), house_of(line))


class NothingChangesTest(HouseCase):
    def test_a_refused_call_changes_nothing(self):
        kinds = set()
        for line in lines(30, 300):
            museum = Museum()
            for call in line[1:]:
                before = kept_of(museum)
                if do(museum, call) < 0:
                    self.assertEqual(kept_of(museum), before, call)
                    kinds.add(call[0])
        self.assertEqual(kinds, set(range(1, 15)))

    def test_without_what_is_refused_and_what_asks_all_is_the_same(self):
        for line in lines(20, 300, asks=True):
            told = said(line)
            kept = [(call, answer) for call, answer in zip(line, told) if call[0] <= 14 and answer[0] >= 0]
            less = [call for call, answer in kept]
            self.assertLess(len(less), len(line) - 75)
            self.assertEqual(said(less), [answer for call, answer in kept])
            self.assertEqual(house_of(less), house_of(line))

    def test_asked_twice_the_same_is_answered(self):
        for line in lines(5, 200):
            asked, told = house_of(line)
            self.assertEqual(said(line + asked + asked)[len(line):], told + told)

    def test_the_most_of_everything(self):
        line = [start()] + [place(0, HALL, 24, k) for k in range(11)] + [thing(name) for name in names(24)]
        line += [show(k + 1, 10 * k, 10 * k + 10) for k in range(6)]
        line += [book(k, number) for k in range(6) for number in range(24)]
        for k in range(6):
            line += [hang(k), day(10), down(k, 0)]
        line += [unbook(0, 0), home(0, 0)]
        told = said(line + [state()])
        self.assertEqual(told[-1], [60, 12, 24, 0, 11 + 24 + 6 + 144 + 18])
        doses = said(line + [dose(k, 60) for k in range(24)])[len(line):]
        self.assertEqual(doses, [[10 * (0 + 1 + 2 + 3 + 4 + 5)]] * 24)


if __name__ == "__main__":
    unittest.main()
