"""The calls on shows: why each is refused, and what it does."""

from museumhouse.bounds import LAST_DAY
from museumhouse.facts import all_shows, any_meets, has_place, has_show, has_thing, is_away, is_hall
from museumhouse.facts import is_hanging, is_harmed, is_lent, light_with, shows_with, things_at
from museumhouse.museum import Show
from museumhouse.refusals import ALREADY, HARMED, IS_HUNG, NO_ROOM, NO_SUCH, NOT_REFUSED, NOT_SO
from museumhouse.refusals import NOT_THE_TIME, TAKEN, TOO_MANY, TOO_MUCH_LIGHT, WRONG


def shows_in(museum, hall):
    return [kept for kept in all_shows(museum) if kept.hall == hall]


def show_refusal(museum, place, first, over):
    if not has_place(museum, place):
        return NO_SUCH
    if not is_hall(museum, place) or first < museum.today or over <= first or over > LAST_DAY:
        return WRONG
    if any_meets(shows_in(museum, place), first, over):
        return TAKEN
    if None not in museum.shows:
        return TOO_MANY
    return NOT_REFUSED


def add_show(museum, place, first, over):
    number = museum.shows.index(None)
    museum.shows[number] = Show(place, first, over)
    return number


def is_lent_after(museum, thing, day):
    return is_lent(museum, thing) and museum.things[thing].back > day


def book_refusal(museum, show, thing):
    if not has_show(museum, show) or not has_thing(museum, thing):
        return NO_SUCH
    kept = museum.shows[show]
    if kept.hung:
        return IS_HUNG
    if thing in kept.booked:
        return ALREADY
    others = shows_with(museum, thing)
    if is_lent_after(museum, thing, kept.first) or any_meets(others, kept.first, kept.over):
        return TAKEN
    if len(kept.booked) >= museum.places[kept.hall].room:
        return NO_ROOM
    if light_with(museum, thing, others + [kept]) > museum.things[thing].limit:
        return TOO_MUCH_LIGHT
    return NOT_REFUSED


def book_thing(museum, show, thing):
    booked = museum.shows[show].booked
    booked.append(thing)
    return len(booked)


def unbook_refusal(museum, show, thing):
    if not has_show(museum, show):
        return NO_SUCH
    kept = museum.shows[show]
    if kept.hung:
        return IS_HUNG
    if thing not in kept.booked:
        return NOT_SO
    return NOT_REFUSED


def unbook_thing(museum, show, thing):
    booked = museum.shows[show].booked
    booked.remove(thing)
    return len(booked)


# Whether the things that come fit beside those that are there and aren't among them.
def has_room_for(museum, place, coming):
    staying = [thing for thing in things_at(museum, place) if thing not in coming]
    return len(staying) + len(coming) <= museum.places[place].room


def hang_refusal(museum, show):
    if not has_show(museum, show):
        return NO_SUCH
    kept = museum.shows[show]
    if kept.hung:
        return ALREADY
    if museum.today < kept.first or museum.today >= kept.over:
        return NOT_THE_TIME
    if any([is_lent(museum, thing) or is_hanging(museum, thing) for thing in kept.booked]):
        return TAKEN
    if any([is_harmed(museum, thing) for thing in kept.booked]):
        return HARMED
    if not has_room_for(museum, kept.hall, kept.booked):
        return NO_ROOM
    return NOT_REFUSED


def put_all(museum, things, place):
    for thing in things:
        museum.things[thing].place = place


def hang_show(museum, show):
    kept = museum.shows[show]
    put_all(museum, kept.booked, kept.hall)
    kept.hung = True
    return len(kept.booked)


def down_refusal(museum, show, place):
    if not has_show(museum, show) or not has_place(museum, place):
        return NO_SUCH
    kept = museum.shows[show]
    if not kept.hung:
        return NOT_SO
    if is_hall(museum, place) or is_away(museum, place):
        return WRONG
    if not has_room_for(museum, place, kept.booked):
        return NO_ROOM
    return NOT_REFUSED


def take_down(museum, show, place):
    kept = museum.shows[show]
    put_all(museum, kept.booked, place)
    museum.shows[show] = None
    return len(kept.booked)


def cancel_refusal(museum, show):
    if not has_show(museum, show):
        return NO_SUCH
    if museum.shows[show].hung:
        return IS_HUNG
    return NOT_REFUSED


def cancel_show(museum, show):
    museum.shows[show] = None
    return 0
