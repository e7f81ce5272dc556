"""The one function that the package offers: the answers to a list of calls."""

from museumhouse.asking import ask
from museumhouse.changes import change
from museumhouse.layout import CANCEL, START, bytes_at, next_at, numbers_at
from museumhouse.museum import Museum


# All the numbers that are answered to the call that stands there.
def said_to(museum, calls, at):
    if calls[at] == START:
        return [0]
    numbers = numbers_at(calls, at)
    row = bytes_at(calls, at)
    # The calls up to this one are those that make an entry; behind it stand those that ask.
    if calls[at] <= CANCEL:
        return [change(museum, calls[at], numbers, row)]
    return ask(museum, calls[at], numbers, row)


def answers(calls):
    museum = Museum()
    given = []
    at = 0
    while at < len(calls):
        if calls[at] == START:
            museum = Museum()
        said = said_to(museum, calls, at)
        given.append(len(said))
        given.extend(said)
        at = next_at(calls, at)
    return given
