"""Reads a question. What is read is a list of steps: each is a claim, or not, and, or behind what it's said of.

However deep its brackets are a question is so gone through by loops.
"""

from museumhouse.grammar import AND, BINDING, CLOSING, NOT, OPENING, OR, claim_length, is_claim
from museumhouse.parts import parts_of, text_of


# How far the parts are read. waiting has the words and brackets whose end isn't seen yet.
class Reader:
    def __init__(self, parts):
        self.parts = parts
        self.at = 0
        self.steps = []
        self.waiting = []
        self.wants_one = True


# What waits and binds closer than this is at its end. What binds alike waits on: all the rest is one with it.
def end_closer(reader, binding):
    while len(reader.waiting) > 0 and BINDING[reader.waiting[-1]] > binding:
        reader.steps.append([reader.waiting.pop()])


# Each of these takes what stands next, and tells whether it may stand there.
def take_one(reader):
    part = reader.parts[reader.at]
    if part in (NOT, OPENING):
        reader.waiting.append(part)
        reader.at = reader.at + 1
        return True
    claim = reader.parts[reader.at:reader.at + claim_length(part)]
    reader.steps.append(claim)
    reader.at = reader.at + len(claim)
    reader.wants_one = False
    return is_claim(claim)


def take_closing(reader):
    end_closer(reader, BINDING[OPENING])
    if len(reader.waiting) == 0:
        return False
    reader.waiting.pop()
    return True


def take_behind_one(reader):
    part = reader.parts[reader.at]
    reader.at = reader.at + 1
    if part == CLOSING:
        return take_closing(reader)
    if part not in (AND, OR):
        return False
    end_closer(reader, BINDING[part])
    reader.waiting.append(part)
    reader.wants_one = True
    return True


def take(reader):
    return take_one(reader) if reader.wants_one else take_behind_one(reader)


# None if the parts are no question.
def steps_of(parts):
    reader = Reader(parts)
    while reader.at < len(parts):
        if not take(reader):
            return None
    end_closer(reader, BINDING[OPENING])
    if reader.wants_one or len(reader.waiting) > 0:
        return None
    return reader.steps


# None if the bytes are no question.
def read_question(row):
    text = text_of(row)
    return None if text is None else steps_of(parts_of(text))
