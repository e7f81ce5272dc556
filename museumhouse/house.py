"""The one function that the package offers: the answers to a list of calls."""

from museumhouse.changes import change
from museumhouse.layout import START, bytes_at, next_at, numbers_at
from museumhouse.museum import Museum


# All the numbers that are answered to the call that stands there.
def said_to(museum, calls, at):
    if calls[at] == START:
        return [0]
    return [change(museum, calls[at], numbers_at(calls, at), bytes_at(calls, at))]


def answers(calls):
    museum = Museum()
    given = []
    at = 0
    while at < len(calls):
        if calls[at] == START:
            museum = Museum()
        said = said_to(museum, calls, at)
        given.append(len(said))
        given.extend(said)
        at = next_at(calls, at)
    return given
