"""The calls that make an entry in the log."""

from museumhouse.bounds import MOST_ENTRIES
from museumhouse.keeping import add_place, add_thing, day_refusal, harm_refusal, light_refusal, move_refusal
from museumhouse.keeping import move_thing, pass_days, place_refusal, set_harm, set_light, thing_refusal
from museumhouse.layout import BOOK, DAY, DOWN, HANG, HARM, HOME, LEND, LIGHT, MOVE, PLACE, SHOW, THING, UNBOOK
from museumhouse.lending import bring_home, home_refusal, lend_refusal, lend_thing
from museumhouse.refusals import LOG_FULL, NOT_REFUSED
from museumhouse.showing import add_show, book_refusal, book_thing, cancel_refusal, cancel_show, down_refusal
from museumhouse.showing import hang_refusal, hang_show, show_refusal, take_down, unbook_refusal, unbook_thing


def refusal_of(museum, call, numbers, letters):
    if call == PLACE:
        return place_refusal(museum, numbers[0], numbers[1], numbers[2], numbers[3])
    if call == LIGHT:
        return light_refusal(museum, numbers[0], numbers[1])
    if call == THING:
        return thing_refusal(museum, numbers[0], numbers[1], numbers[2], numbers[3], letters)
    if call == MOVE:
        return move_refusal(museum, numbers[0], numbers[1])
    if call == DAY:
        return day_refusal(museum, numbers[0])
    if call == HARM:
        return harm_refusal(museum, numbers[0], numbers[1])
    if call == LEND:
        return lend_refusal(museum, numbers[0], numbers[1], numbers[2])
    if call == HOME:
        return home_refusal(museum, numbers[0], numbers[1])
    if call == SHOW:
        return show_refusal(museum, numbers[0], numbers[1], numbers[2])
    if call == BOOK:
        return book_refusal(museum, numbers[0], numbers[1])
    if call == UNBOOK:
        return unbook_refusal(museum, numbers[0], numbers[1])
    if call == HANG:
        return hang_refusal(museum, numbers[0])
    if call == DOWN:
        return down_refusal(museum, numbers[0], numbers[1])
    return cancel_refusal(museum, numbers[0])


def carry_out(museum, call, numbers, letters):
    if call == PLACE:
        return add_place(museum, numbers[0], numbers[1], numbers[2], numbers[3])
    if call == LIGHT:
        return set_light(museum, numbers[0], numbers[1])
    if call == THING:
        return add_thing(museum, numbers[1], numbers[2], numbers[3], letters)
    if call == MOVE:
        return move_thing(museum, numbers[0], numbers[1])
    if call == DAY:
        return pass_days(museum, numbers[0])
    if call == HARM:
        return set_harm(museum, numbers[0], numbers[1])
    if call == LEND:
        return lend_thing(museum, numbers[0], numbers[1], numbers[2])
    if call == HOME:
        return bring_home(museum, numbers[0], numbers[1])
    if call == SHOW:
        return add_show(museum, numbers[0], numbers[1], numbers[2])
    if call == BOOK:
        return book_thing(museum, numbers[0], numbers[1])
    if call == UNBOOK:
        return unbook_thing(museum, numbers[0], numbers[1])
    if call == HANG:
        return hang_show(museum, numbers[0])
    if call == DOWN:
        return take_down(museum, numbers[0], numbers[1])
    return cancel_show(museum, numbers[0])


# Nothing is touched before all refusals are ruled out, so a refused call leaves all as it was.
def change(museum, call, numbers, letters):
    refusal = refusal_of(museum, call, numbers, letters)
    if refusal != NOT_REFUSED:
        return refusal
    if len(museum.entries) == MOST_ENTRIES:
        return LOG_FULL
    answer = carry_out(museum, call, numbers, letters)
    museum.entries.append([call] + numbers + letters)
    return answer
