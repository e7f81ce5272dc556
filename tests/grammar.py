"""The grammar of questions told over again, rule by rule, and a slow way to write one: bracket by bracket."""

import random
import re

FIELDS = ("light", "limit", "material", "harm", "came")


class NoQuestion(Exception):
    pass


def parts_of(text):
    """text is bytes."""
    if not re.fullmatch(rb"[a-z0-9()<=> ]*", text):
        raise NoQuestion
    return re.findall(r"[a-z]+|[0-9]+|[()<=>]", text.decode())


class Reading:
    """A tree is ("or", first, rest), ("and", first, rest), ("not", one) or a claim's parts."""

    def __init__(self, parts):
        self.parts = parts

    def next(self):
        return self.parts[0] if self.parts else None

    def take(self, wanted):
        if not self.parts or not re.fullmatch(wanted, self.parts[0]):
            raise NoQuestion
        return self.parts.pop(0)

    def question(self):
        first = self.both()
        if self.next() != "or":
            return first
        self.take("or")
        return ("or", first, self.question())

    def both(self):
        first = self.one()
        if self.next() != "and":
            return first
        self.take("and")
        return ("and", first, self.both())

    def one(self):
        word = self.take(r"[a-z]+|\(")
        if word == "not":
            return ("not", self.one())
        if word == "(":
            inner = self.question()
            self.take(r"\)")
            return inner
        if word in ("all", "lent", "shown"):
            return (word,)
        if word == "in":
            return (word, self.number())
        if word in FIELDS:
            return (word, self.take("[<=>]"), self.number())
        raise NoQuestion

    def number(self):
        return int(self.take("0|[1-9][0-9]{0,6}"))


def tree_of(parts):
    reading = Reading(list(parts))
    tree = reading.question()
    if reading.parts:
        raise NoQuestion
    return tree


def partner(parts, at):
    """Where the bracket closes that opens there."""
    depth = 0
    for k in range(at, len(parts)):
        depth += {"(": 1, ")": -1}.get(parts[k], 0)
        if depth == 0:
            return k
    raise NoQuestion


def same_tree(parts, tree):
    try:
        return tree_of(parts) == tree
    except NoQuestion:
        return False


def without_brackets(parts):
    """Each pair of brackets goes without which it's the same question, till none can go."""
    tree = tree_of(parts)
    again = True
    while again:
        again = False
        for at in range(len(parts)):
            if parts[at] == "(":
                end = partner(parts, at)
                fewer = parts[:at] + parts[at + 1:end] + parts[end + 1:]
                if same_tree(fewer, tree):
                    parts = fewer
                    again = True
                    break
    return parts


def written(text):
    return " ".join(without_brackets(parts_of(text))).replace("( ", "(").replace(" )", ")").encode()


class Asker:
    """Texts made by chance, nearly all of them questions."""

    def __init__(self, source):
        self.random = source

    def number(self):
        return str(self.random.choice([0, 1, 2, 3, 4, 5, 10, 50, 100, 1000, 1000000, 9999999]))

    def claim(self):
        kind = self.random.randrange(8)
        if kind < 3:
            return [("all", "lent", "shown")[kind]]
        if kind < 5:
            return ["in", self.number()]
        return [self.random.choice(FIELDS), self.random.choice("<=>"), self.number()]

    def parts(self, depth):
        kind = self.random.randrange(6) if depth else 0
        if kind == 0:
            return self.claim()
        if kind == 1:
            return ["not"] + self.bracketed(depth - 1, 2)
        if kind == 2:
            return ["("] + self.parts(depth - 1) + [")"]
        found = self.bracketed(depth - 1, 2)
        for k in range(self.random.randrange(1, 3)):
            found += [self.random.choice(["and", "or"])] + self.bracketed(depth - 1, 2)
        return found

    def bracketed(self, depth, odds):
        inner = self.parts(depth)
        return ["("] + inner + [")"] if self.random.randrange(odds) == 0 else inner

    def spoiled(self, parts):
        at = self.random.randrange(len(parts))
        other = self.random.choice(["(", ")", "not", "and", "or", "all", "in", "light", "<", "7", "07", "12345678", "x"])
        return self.random.choice([parts[:at] + parts[at + 1:], parts[:at] + [other] + parts[at:],
                                   parts[:at] + [other] + parts[at + 1:]])

    def joined(self, parts):
        text = ""
        for part in parts:
            needs = text and (text[-1].isalpha() and part.isalpha() or text[-1].isdigit() and part.isdigit())
            text += (" " if needs else "") + self.random.choice(["", "", "", " "]) + part
        return text

    def text(self):
        """At most 120 bytes."""
        while True:
            parts = self.parts(self.random.randrange(6))
            if self.random.randrange(6) == 0:
                parts = self.spoiled(parts)
            text = self.joined(parts)
            if len(text) <= 120:
                return text


def chance_texts(seed, count):
    asker = Asker(random.Random(seed))
    return [asker.text() for k in range(count)]
