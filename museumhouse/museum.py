"""What a museum keeps: places, things, shows and the log."""

from museumhouse.bounds import MOST_ROOM, MOST_SHOWS, STORE


# Its light is the one that holds today; what it was before is kept in the light of the things. The house has no up.
class Place:
    def __init__(self, up, kind, room, light):
        self.up = up
        self.kind = kind
        self.room = room
        self.light = light


# The name is the list of its bytes. back is None unless it's lent.
class Thing:
    def __init__(self, name, material, limit, came, place):
        self.name = name
        self.material = material
        self.limit = limit
        self.harm = 0
        self.came = came
        self.place = place
        self.back = None
        # Where it was at the end of each day that's past, from the one when it came, and its light to each day from
        # that one: written once, as a day ends, so that the past stays.
        self.stays = []
        self.lights = [0]


# It lasts from its first day to the one before over. booked has the numbers of things.
class Show:
    def __init__(self, hall, first, over):
        self.hall = hall
        self.first = first
        self.over = over
        self.hung = False
        self.booked = []


# A free place of the list of shows is None. An entry is its call's number and what the call was given.
class Museum:
    def __init__(self):
        self.today = 0
        self.places = [Place(None, STORE, MOST_ROOM, 0)]
        self.things = []
        self.shows = [None] * MOST_SHOWS
        self.entries = []
