"""The numbers by which a call is refused."""

NOT_REFUSED = 0
NO_SUCH = -2
NOT_SO = -6
NO_ROOM = -12
NOT_THE_TIME = -13
IS_HUNG = -15
TAKEN = -16
ALREADY = -17
WRONG = -22
TOO_MANY = -28
TOO_MUCH_LIGHT = -33
HARMED = -61
LOG_FULL = -75
