"""The parts of a question's text: words, numbers and signs."""

LETTERS = "abcdefghijklmnopqrstuvwxyz"
DIGITS = "0123456789"
BLANK = " "
# Every sign that may stand in a question.
KNOWN = "abcdefghijklmnopqrstuvwxyz0123456789()<=> "


# None if some byte is of no sign that may stand in a question.
def text_of(row):
    codes = [ord(sign) for sign in KNOWN]
    if any([byte not in codes for byte in row]):
        return None
    return "".join([KNOWN[codes.index(byte)] for byte in row])


# A word goes as far as there are letters, a number as far as there are digits; any other sign is by itself.
def part_end(text, at):
    end = at + 1
    for alike in (LETTERS, DIGITS):
        while text[at] in alike and end < len(text) and text[end] in alike:
            end = end + 1
    return end


def parts_of(text):
    parts = []
    at = 0
    while at < len(text):
        end = part_end(text, at)
        if text[at] != BLANK:
            parts.append(text[at:end])
        at = end
    return parts
