"""What is so of a museum. Places, things and shows are told by their numbers, unless a remark says otherwise."""

from museumhouse.bounds import AWAY, HALL, HARM_BAD_FOR_HALL, MOST_SHOWS


def has_place(museum, place):
    return place < len(museum.places)


def has_thing(museum, thing):
    return thing < len(museum.things)


def has_show(museum, show):
    return show < MOST_SHOWS and museum.shows[show] is not None


def is_hall(museum, place):
    return museum.places[place].kind == HALL


def is_away(museum, place):
    return museum.places[place].kind == AWAY


# Whether a place is this one, or within it, in however many steps; there may be no such place.
def is_within(museum, place, outer):
    at = place
    while at is not None and at != outer:
        at = museum.places[at].up
    return at is not None


def things_at(museum, place):
    return [number for number, kept in enumerate(museum.things) if kept.place == place]


def is_full(museum, place):
    return len(things_at(museum, place)) >= museum.places[place].room


def is_lent(museum, thing):
    return museum.things[thing].back is not None


# So much that it's bad for a hall.
def is_harmed(museum, thing):
    return museum.things[thing].harm >= HARM_BAD_FOR_HALL


def is_bad_there(museum, thing, place):
    return is_harmed(museum, thing) and is_hall(museum, place)


# The shows themselves, not their numbers.
def all_shows(museum):
    return [kept for kept in museum.shows if kept is not None]


# The shows themselves for which the thing is booked, hung or not.
def shows_with(museum, thing):
    return [kept for kept in all_shows(museum) if thing in kept.booked]


def is_hanging(museum, thing):
    return any([kept.hung for kept in shows_with(museum, thing)])


# Whether some day from first to the one before over is of this show.
def meets(kept, first, over):
    return kept.first < over and first < kept.over


def any_meets(shows, first, over):
    return any([meets(kept, first, over) for kept in shows])


# Where the thing was at the end of a day, from the one when it came to today.
def place_on(museum, thing, day):
    kept = museum.things[thing]
    return kept.place if day == museum.today else kept.stays[day - kept.came]


# The thing's light to a day that isn't after today.
def light_to(museum, thing, day):
    kept = museum.things[thing]
    return kept.lights[max(day - kept.came, 0)]


# What its light will be with these shows, one at least; no two of them meet, so their days add up.
def light_with(museum, thing, shows):
    here = museum.places[museum.things[thing].place].light
    end = max([kept.over for kept in shows])
    total = light_to(museum, thing, museum.today) + max(end - museum.today, 0) * here
    for kept in shows:
        days = max(kept.over - max(kept.first, museum.today), 0)
        total = total + days * (museum.places[kept.hall].light - here)
    return total
