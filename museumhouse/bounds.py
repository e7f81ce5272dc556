"""The kinds of places, and how much of everything there may be."""

STORE = 0
HALL = 1
WORKSHOP = 2
AWAY = 3

LAST_DAY = 2000
MOST_PLACES = 12
MOST_ROOM = 24
MOST_UNITS = 10000
MOST_THINGS = 24
MOST_LETTERS = 8
MOST_MATERIAL = 7
MOST_LIMIT = 1000000
MOST_HARM = 5
HARM_BAD_FOR_HALL = 3
MOST_SHOWS = 6
MOST_ENTRIES = 400
# How many numbers are told of an entry, and how many bytes a question has at most.
ENTRY_NUMBERS = 13
MOST_BYTES = 120
