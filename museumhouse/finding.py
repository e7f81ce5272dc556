"""Whether a question that was read is so of a thing."""

from museumhouse.facts import is_hall, is_lent, is_within, light_to
from museumhouse.grammar import ALL, AND, HARM, IN, LENT, LESS, LIGHT, LIMIT, MATERIAL, NOT, OR, SAME, SHOWN


def field_of(museum, thing, field):
    kept = museum.things[thing]
    if field == LIGHT:
        return light_to(museum, thing, museum.today)
    if field == LIMIT:
        return kept.limit
    if field == MATERIAL:
        return kept.material
    if field == HARM:
        return kept.harm
    return kept.came


def compares(number, sign, other):
    if sign == LESS:
        return number < other
    if sign == SAME:
        return number == other
    return number > other


def is_claim_so(museum, thing, claim):
    if claim[0] == ALL:
        return True
    if claim[0] == LENT:
        return is_lent(museum, thing)
    if claim[0] == SHOWN:
        return is_hall(museum, museum.things[thing].place)
    if claim[0] == IN:
        return is_within(museum, museum.things[thing].place, int(claim[1]))
    return compares(field_of(museum, thing, claim[0]), claim[1], int(claim[2]))


def both_so(first, word, rest):
    if word == AND:
        return first and rest
    return first or rest


# Whether the step is so, out of the last of these, which it takes away.
def take_truth(museum, thing, truths, step):
    if step[0] == NOT:
        return not truths.pop()
    if step[0] in (AND, OR):
        rest = truths.pop()
        return both_so(truths.pop(), step[0], rest)
    return is_claim_so(museum, thing, step)


def is_so(museum, thing, steps):
    truths = []
    for step in steps:
        truths.append(take_truth(museum, thing, truths, step))
    return truths[0]
