"""The words of a question, and what of them makes a claim: all that's asked of a thing without not, and, or."""

NOT = "not"
AND = "and"
OR = "or"
OPENING = "("
CLOSING = ")"

ALL = "all"
LENT = "lent"
SHOWN = "shown"
IN = "in"

LIGHT = "light"
LIMIT = "limit"
MATERIAL = "material"
HARM = "harm"
CAME = "came"

LESS = "<"
SAME = "="
MORE = ">"

MOST_DIGITS = 7

# How close each binds what's behind it.
BINDING = {"(": 0, "or": 1, "and": 2, "not": 3}


def is_number(part):
    return part.isdigit() and len(part) <= MOST_DIGITS and (part == "0" or not part.startswith("0"))


def is_field(part):
    return part in (LIGHT, LIMIT, MATERIAL, HARM, CAME)


# How many parts a claim has that begins with this one; 0 if none does.
def claim_length(part):
    if part in (ALL, LENT, SHOWN):
        return 1
    if part == IN:
        return 2
    if is_field(part):
        return 3
    return 0


# Of a claim's length the text may have less left, so the first part is looked at once more.
def is_claim(parts):
    if len(parts) == 1:
        return parts[0] in (ALL, LENT, SHOWN)
    if len(parts) == 2:
        return parts[0] == IN and is_number(parts[1])
    if len(parts) == 3:
        return is_field(parts[0]) and parts[1] in (LESS, SAME, MORE) and is_number(parts[2])
    return False
