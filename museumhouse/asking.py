"""The calls that ask and change nothing: all the numbers that are answered to each."""

from museumhouse.bounds import ENTRY_NUMBERS, LAST_DAY, MOST_BYTES, MOST_THINGS
from museumhouse.facts import all_shows, has_place, has_thing, is_hall, is_harmed, is_lent, is_within, light_to
from museumhouse.facts import place_on
from museumhouse.finding import is_so
from museumhouse.layout import DOSE, ENTRY, FIND, INSIDE, MUST, OVERDUE, UNTIL, WHERE, WRITE
from museumhouse.reading import read_question
from museumhouse.refusals import NO_QUESTION, NO_SUCH, NOT_SO, TOO_LONG, TOO_MUCH_LIGHT, WRONG
from museumhouse.writing import written


def where(museum, thing, day):
    if not has_thing(museum, thing):
        return [NO_SUCH]
    if day > museum.today:
        return [WRONG]
    if day < museum.things[thing].came:
        return [NOT_SO]
    return [place_on(museum, thing, day)]


def dose(museum, thing, day):
    if not has_thing(museum, thing):
        return [NO_SUCH]
    if day > museum.today:
        return [WRONG]
    return [light_to(museum, thing, day)]


def until(museum, thing):
    if not has_thing(museum, thing):
        return [NO_SUCH]
    kept = museum.things[thing]
    left = kept.limit - light_to(museum, thing, museum.today)
    if left < 0:
        return [TOO_MUCH_LIGHT]
    units = museum.places[kept.place].light
    if units == 0:
        return [LAST_DAY]
    return [min(museum.today + left // units, LAST_DAY)]


def bits_of(things):
    bits = 0
    bit = 1
    for thing in range(MOST_THINGS):
        if thing in things:
            bits = bits + bit
        bit = bit * 2
    return bits


def counted(things):
    return [len(things), bits_of(things)]


def inside(museum, place):
    if not has_place(museum, place):
        return [NO_SUCH]
    return counted([thing for thing, kept in enumerate(museum.things) if is_within(museum, kept.place, place)])


def is_overdue(museum, thing):
    return is_lent(museum, thing) and museum.things[thing].back < museum.today


def overdue(museum):
    return counted([thing for thing in range(len(museum.things)) if is_overdue(museum, thing)])


def has_too_much_light(museum, thing):
    return light_to(museum, thing, museum.today) > museum.things[thing].limit


# Whether it must come out of its hall.
def must_go(museum, thing):
    if not is_hall(museum, museum.things[thing].place):
        return False
    return is_harmed(museum, thing) or has_too_much_light(museum, thing)


def must(museum):
    return counted([thing for thing in range(len(museum.things)) if must_go(museum, thing)])


def find_things(museum, n, row):
    if n > MOST_BYTES:
        return [WRONG]
    steps = read_question(row)
    if steps is None:
        return [NO_QUESTION]
    return counted([thing for thing in range(len(museum.things)) if is_so(museum, thing, steps)])


def filled(numbers, length):
    return numbers + [0] * (length - len(numbers))


def write_question(n, row):
    if n > MOST_BYTES:
        return [WRONG]
    steps = read_question(row)
    if steps is None:
        return [NO_QUESTION]
    text = written(steps)
    if len(text) > MOST_BYTES:
        return [TOO_LONG]
    return [len(text)] + filled([ord(sign) for sign in text], MOST_BYTES)


def entry(museum, k):
    if k >= len(museum.entries):
        return [NO_SUCH]
    return [len(museum.entries)] + filled(museum.entries[k], ENTRY_NUMBERS)


def state(museum):
    return [museum.today, len(museum.places), len(museum.things), len(all_shows(museum)), len(museum.entries)]


def ask(museum, call, numbers, row):
    if call == WHERE:
        return where(museum, numbers[0], numbers[1])
    if call == DOSE:
        return dose(museum, numbers[0], numbers[1])
    if call == UNTIL:
        return until(museum, numbers[0])
    if call == INSIDE:
        return inside(museum, numbers[0])
    if call == OVERDUE:
        return overdue(museum)
    if call == MUST:
        return must(museum)
    if call == FIND:
        return find_things(museum, numbers[0], row)
    if call == WRITE:
        return write_question(numbers[0], row)
    if call == ENTRY:
        return entry(museum, numbers[0])
    return state(museum)
