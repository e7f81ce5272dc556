"""The calls on places, things and days: why each is refused, and what it does."""

from museumhouse.bounds import AWAY, LAST_DAY, MOST_HARM, MOST_LETTERS, MOST_LIMIT, MOST_MATERIAL
from museumhouse.bounds import MOST_PLACES, MOST_ROOM, MOST_THINGS, MOST_UNITS
from museumhouse.facts import has_place, has_thing, is_away, is_bad_there, is_full, is_hanging, is_lent
from museumhouse.museum import Place, Thing
from museumhouse.refusals import ALREADY, HARMED, NO_ROOM, NO_SUCH, NOT_REFUSED, TAKEN, TOO_MANY, WRONG

LETTER_A = 97
LETTER_Z = 122


def place_refusal(museum, up, kind, room, light):
    if not has_place(museum, up):
        return NO_SUCH
    if kind > AWAY or room < 1 or room > MOST_ROOM or light > MOST_UNITS:
        return WRONG
    if len(museum.places) == MOST_PLACES:
        return TOO_MANY
    return NOT_REFUSED


def add_place(museum, up, kind, room, light):
    museum.places.append(Place(up, kind, room, light))
    return len(museum.places) - 1


def light_refusal(museum, place, units):
    if not has_place(museum, place):
        return NO_SUCH
    if units > MOST_UNITS:
        return WRONG
    return NOT_REFUSED


def set_light(museum, place, units):
    museum.places[place].light = units
    return 0


def is_name(letters):
    return len(letters) > 0 and all([LETTER_A <= letter <= LETTER_Z for letter in letters])


def has_name(museum, letters):
    return any([kept.name == letters for kept in museum.things])


def thing_refusal(museum, n, material, limit, place, letters):
    if n > MOST_LETTERS:
        return WRONG
    if not has_place(museum, place):
        return NO_SUCH
    if not is_name(letters) or material > MOST_MATERIAL or limit > MOST_LIMIT or is_away(museum, place):
        return WRONG
    if has_name(museum, letters):
        return ALREADY
    if len(museum.things) == MOST_THINGS:
        return TOO_MANY
    if is_full(museum, place):
        return NO_ROOM
    return NOT_REFUSED


def add_thing(museum, material, limit, place, letters):
    museum.things.append(Thing(letters, material, limit, museum.today, place))
    return len(museum.things) - 1


def move_refusal(museum, thing, place):
    if not has_thing(museum, thing) or not has_place(museum, place):
        return NO_SUCH
    if is_away(museum, place):
        return WRONG
    if is_lent(museum, thing):
        return ALREADY
    if is_hanging(museum, thing):
        return TAKEN
    if is_bad_there(museum, thing, place):
        return HARMED
    if is_full(museum, place) and museum.things[thing].place != place:
        return NO_ROOM
    return NOT_REFUSED


def move_thing(museum, thing, place):
    museum.things[thing].place = place
    return 0


def day_refusal(museum, n):
    if n == 0 or museum.today + n > LAST_DAY:
        return WRONG
    return NOT_REFUSED


def end_day(museum):
    for kept in museum.things:
        kept.stays.append(kept.place)
        kept.lights.append(kept.lights[-1] + museum.places[kept.place].light)
    museum.today = museum.today + 1


def pass_days(museum, n):
    for day in range(n):
        end_day(museum)
    return museum.today


def harm_refusal(museum, thing, level):
    if not has_thing(museum, thing):
        return NO_SUCH
    if level > MOST_HARM:
        return WRONG
    return NOT_REFUSED


def set_harm(museum, thing, level):
    kept = museum.things[thing]
    kept.harm = level
    return 1 if is_bad_there(museum, thing, kept.place) else 0
