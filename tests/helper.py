"""Calls written as functions, and a test case that puts a line of them to the program."""

import unittest

from museumhouse.house import answers

STORE, HALL, WORKSHOP, AWAY = 0, 1, 2, 3
BIGGEST = 4294967295


def start():
    return [0]


def place(up, kind, room, light):
    return [1, up, kind, room, light]


def light(number, units):
    return [2, number, units]


def thing(name, material=0, limit=1000000, at=0, n=None, behind=0):
    """name is a text or a list of bytes; behind fills the row up to 8."""
    row = [ord(letter) for letter in name] if isinstance(name, str) else list(name)
    n = len(row) if n is None else n
    row = (row + [behind] * 8)[:8]
    return [3, n, material, limit, at, 8] + row


def move(number, at):
    return [4, number, at]


def day(n):
    return [5, n]


def harm(number, level):
    return [6, number, level]


def lend(number, at, back):
    return [7, number, at, back]


def home(number, at):
    return [8, number, at]


def show(hall, first, over):
    return [9, hall, first, over]


def book(number, booked):
    return [10, number, booked]


def unbook(number, booked):
    return [11, number, booked]


def hang(number):
    return [12, number]


def down(number, at):
    return [13, number, at]


def cancel(number):
    return [14, number]


def where(number, on):
    return [15, number, on]


def dose(number, to):
    return [16, number, to]


def until(number):
    return [17, number]


def inside(at):
    return [18, at]


def overdue():
    return [19]


def must():
    return [20]


def row_of(text, behind):
    """text is a text or a list of bytes; behind fills the row up to 120."""
    row = [ord(sign) for sign in text] if isinstance(text, str) else list(text)
    return row, (row + [behind] * 120)[:120]


def find(text, n=None, behind=0):
    row, filled = row_of(text, behind)
    return [21, len(row) if n is None else n, 120] + filled


def write(text, n=None, behind=0):
    row, filled = row_of(text, behind)
    return [22, len(row) if n is None else n, 120] + filled


def entry(k):
    return [23, k]


def state():
    return [24]


def bits(*things):
    """What's answered where so many things are told as bits."""
    return [len(things), sum(2 ** number for number in things)]


def names(count):
    """So many names, no two the same."""
    return ["abcdefghijklmnopqrstuvwxyz"[k] for k in range(count)]


def said(calls):
    """For each call the list of numbers that's answered to it."""
    line = [number for call in calls for number in call]
    handed = list(line)
    given = answers(handed)
    if handed != line:
        raise AssertionError("the list handed in was changed")
    told = []
    at = 0
    while at < len(given):
        told.append(given[at + 1:at + 1 + given[at]])
        at += 1 + given[at]
    return told


class HouseCase(unittest.TestCase):
    def check(self, *pairs):
        """Each pair is a call and the number, or all the numbers, that must be answered; a start is put ahead."""
        told = said([start()] + [call for call, wanted in pairs])
        self.assertEqual(len(told), len(pairs) + 1)
        self.assertEqual(told[0], [0])
        for k, (call, wanted) in enumerate(pairs):
            wanted = wanted if isinstance(wanted, list) else [wanted]
            self.assertEqual(told[k + 1], wanted, f"call {k} of the line: {call}")
