"""The calls that lend a thing and bring it home: why each is refused, and what it does."""

from museumhouse.bounds import LAST_DAY
from museumhouse.facts import any_meets, has_place, has_thing, is_away, is_bad_there, is_full, is_hanging
from museumhouse.facts import is_harmed, is_lent, shows_with
from museumhouse.refusals import ALREADY, HARMED, NO_ROOM, NO_SUCH, NOT_REFUSED, NOT_SO, TAKEN, WRONG


def lend_refusal(museum, thing, place, back):
    if not has_thing(museum, thing) or not has_place(museum, place):
        return NO_SUCH
    if not is_away(museum, place) or back <= museum.today or back > LAST_DAY:
        return WRONG
    if is_lent(museum, thing):
        return ALREADY
    if is_hanging(museum, thing) or any_meets(shows_with(museum, thing), museum.today, back):
        return TAKEN
    if is_harmed(museum, thing):
        return HARMED
    if is_full(museum, place):
        return NO_ROOM
    return NOT_REFUSED


def lend_thing(museum, thing, place, back):
    kept = museum.things[thing]
    kept.place = place
    kept.back = back
    return 0


def home_refusal(museum, thing, place):
    if not has_thing(museum, thing) or not has_place(museum, place):
        return NO_SUCH
    if not is_lent(museum, thing):
        return NOT_SO
    if is_away(museum, place):
        return WRONG
    if is_bad_there(museum, thing, place):
        return HARMED
    if is_full(museum, place):
        return NO_ROOM
    return NOT_REFUSED


def bring_home(museum, thing, place):
    kept = museum.things[thing]
    kept.place = place
    kept.back = None
    return 0
