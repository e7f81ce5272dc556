"""How the calls stand in a list of numbers."""

START = 0
PLACE = 1
LIGHT = 2
THING = 3
MOVE = 4
DAY = 5
HARM = 6
LEND = 7
HOME = 8
SHOW = 9
BOOK = 10
UNBOOK = 11
HANG = 12
DOWN = 13
CANCEL = 14
WHERE = 15
DOSE = 16
UNTIL = 17
INSIDE = 18
OVERDUE = 19
MUST = 20
FIND = 21
WRITE = 22
ENTRY = 23
STATE = 24

# How many whole numbers stand behind each call's own number, by that number.
NUMBERS = (0, 4, 2, 4, 2, 1, 2, 3, 2, 3, 2, 2, 1, 2, 1, 2, 2, 1, 1, 0, 0, 1, 1, 1, 0)


def has_row(call):
    return call in (THING, FIND, WRITE)


# Where the call's row would begin: behind its numbers and the row's length.
def row_start(calls, at):
    return at + 1 + NUMBERS[calls[at]] + 1


def numbers_at(calls, at):
    return calls[at + 1:at + 1 + NUMBERS[calls[at]]]


# The first n bytes of the call's row; none if it has no row.
def bytes_at(calls, at):
    if not has_row(calls[at]):
        return []
    start = row_start(calls, at)
    # Each call with a row has n as the first of its numbers.
    return calls[start:start + min(calls[at + 1], calls[start - 1])]


def next_at(calls, at):
    if not has_row(calls[at]):
        return at + 1 + NUMBERS[calls[at]]
    start = row_start(calls, at)
    return start + calls[start - 1]
