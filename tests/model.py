"""The document's words told over again, slowly: days one by one, out of all that was ever told or put."""

from tests.grammar import NoQuestion, parts_of, tree_of, written

NAMES = ("start place light thing move day harm lend home show book unbook hang down cancel where dose until inside "
         "overdue must find write entry state").split()


class Model:
    def __init__(self):
        self.today = 0
        self.places = [dict(up=None, kind=0, room=24, told=[(0, 0)])]
        self.things = []
        self.shows = {}
        self.entries = []

    def light(self, place, day):
        return [units for told, units in self.places[place]["told"] if told <= day][-1]

    def at(self, thing, day):
        return [place for put, place in self.things[thing]["puts"] if put <= day][-1]

    def now(self, thing):
        return self.at(thing, self.today)

    def there(self, place):
        return {thing for thing in range(len(self.things)) if self.now(thing) == place}

    def full(self, place):
        return len(self.there(place)) == self.places[place]["room"]

    def dose(self, thing, to):
        days = range(self.things[thing]["came"], to)
        return sum(self.light(self.at(thing, day), day) for day in days)

    def days(self, show):
        return set(range(self.shows[show]["first"], self.shows[show]["over"]))

    def shows_of(self, thing):
        return [show for show in self.shows if thing in self.shows[show]["booked"]]

    def hangs(self, thing):
        return any(self.shows[show]["hung"] for show in self.shows_of(thing))

    def will_be(self, thing, shows):
        total = self.dose(thing, self.today)
        for day in range(self.today, max(self.shows[show]["over"] for show in shows)):
            lasting = [show for show in shows if day in self.days(show)]
            place = self.shows[lasting[0]]["hall"] if lasting else self.now(thing)
            total += self.light(place, self.today)
        return total

    def kind(self, place):
        return self.places[place]["kind"]

    def bad(self, thing, place):
        return self.things[thing]["harm"] >= 3 and self.kind(place) == 1

    def put(self, thing, place):
        self.things[thing]["puts"].append((self.today, place))

    def answer(self, call):
        """All the numbers that are answered."""
        if call[0] == 0:
            self.__init__()
            return [0]
        steps = getattr(self, NAMES[call[0]] + "_call")(*call[1:])
        refusals = next(steps)
        for refusal, due in refusals:
            if due():
                return [refusal]
        if call[0] > 14:
            return next(steps)
        if len(self.entries) == 400:
            return [-75]
        self.entries.append(call[:5] + call[6:6 + call[1]] if call[0] == 3 else call)
        return [next(steps)]

    # Each call yields its refusals in order, then, done, its answer; of one that asks, all its numbers.

    def place_call(self, up, kind, room, light):
        yield [(-2, lambda: up >= len(self.places)),
               (-22, lambda: kind > 3 or not 1 <= room <= 24 or light > 10000),
               (-28, lambda: len(self.places) == 12)]
        self.places.append(dict(up=up, kind=kind, room=room, told=[(self.today, light)]))
        yield len(self.places) - 1

    def light_call(self, place, units):
        yield [(-2, lambda: place >= len(self.places)), (-22, lambda: units > 10000)]
        self.places[place]["told"].append((self.today, units))
        yield 0

    def thing_call(self, n, material, limit, place, length, *row):
        name = bytes(row[:n])
        yield [(-22, lambda: n > 8), (-2, lambda: place >= len(self.places)),
               (-22, lambda: not name or name.strip(b"abcdefghijklmnopqrstuvwxyz") != b""),
               (-22, lambda: material > 7 or limit > 1000000 or self.kind(place) == 3),
               (-17, lambda: name in [thing["name"] for thing in self.things]),
               (-28, lambda: len(self.things) == 24), (-12, lambda: self.full(place))]
        self.things.append(dict(name=name, material=material, limit=limit, harm=0, came=self.today, back=None,
                                puts=[(self.today, place)]))
        yield len(self.things) - 1

    def no_thing_or_place(self, thing, place):
        return thing >= len(self.things) or place >= len(self.places)

    def move_call(self, thing, place):
        yield [(-2, lambda: self.no_thing_or_place(thing, place)), (-22, lambda: self.kind(place) == 3),
               (-17, lambda: self.things[thing]["back"] is not None), (-16, lambda: self.hangs(thing)),
               (-61, lambda: self.bad(thing, place)),
               (-12, lambda: self.full(place) and thing not in self.there(place))]
        self.put(thing, place)
        yield 0

    def day_call(self, n):
        yield [(-22, lambda: n == 0 or self.today + n > 2000)]
        self.today += n
        yield self.today

    def harm_call(self, thing, level):
        yield [(-2, lambda: thing >= len(self.things)), (-22, lambda: level > 5)]
        self.things[thing]["harm"] = level
        yield int(self.bad(thing, self.now(thing)))

    def lend_call(self, thing, place, back):
        def days():
            return set(range(self.today, back))
        yield [(-2, lambda: self.no_thing_or_place(thing, place)),
               (-22, lambda: self.kind(place) != 3 or not self.today < back <= 2000),
               (-17, lambda: self.things[thing]["back"] is not None),
               (-16, lambda: self.hangs(thing) or any(self.days(show) & days() for show in self.shows_of(thing))),
               (-61, lambda: self.things[thing]["harm"] >= 3), (-12, lambda: self.full(place))]
        self.put(thing, place)
        self.things[thing]["back"] = back
        yield 0

    def home_call(self, thing, place):
        yield [(-2, lambda: self.no_thing_or_place(thing, place)), (-6, lambda: self.things[thing]["back"] is None),
               (-22, lambda: self.kind(place) == 3), (-61, lambda: self.bad(thing, place)),
               (-12, lambda: self.full(place))]
        self.put(thing, place)
        self.things[thing]["back"] = None
        yield 0

    def show_call(self, place, first, over):
        def meeting():
            days = set(range(first, over))
            return [show for show in self.shows if self.shows[show]["hall"] == place and self.days(show) & days]
        yield [(-2, lambda: place >= len(self.places)),
               (-22, lambda: self.kind(place) != 1 or not self.today <= first < over <= 2000),
               (-16, lambda: meeting() != []), (-28, lambda: len(self.shows) == 6)]
        number = min(set(range(6)) - set(self.shows))
        self.shows[number] = dict(hall=place, first=first, over=over, hung=False, booked=[])
        yield number

    def book_call(self, show, thing):
        def taken():
            back = self.things[thing]["back"]
            return (back is not None and back > self.shows[show]["first"]
                    or any(self.days(show) & self.days(other) for other in self.shows_of(thing)))
        yield [(-2, lambda: show not in self.shows or thing >= len(self.things)),
               (-15, lambda: self.shows[show]["hung"]), (-17, lambda: thing in self.shows[show]["booked"]),
               (-16, taken),
               (-12, lambda: len(self.shows[show]["booked"]) == self.places[self.shows[show]["hall"]]["room"]),
               (-33, lambda: self.will_be(thing, self.shows_of(thing) + [show]) > self.things[thing]["limit"])]
        self.shows[show]["booked"].append(thing)
        yield len(self.shows[show]["booked"])

    def unbook_call(self, show, thing):
        yield [(-2, lambda: show not in self.shows), (-15, lambda: self.shows[show]["hung"]),
               (-6, lambda: thing not in self.shows[show]["booked"])]
        self.shows[show]["booked"].remove(thing)
        yield len(self.shows[show]["booked"])

    def hang_call(self, show):
        def booked():
            return self.shows[show]["booked"]
        yield [(-2, lambda: show not in self.shows), (-17, lambda: self.shows[show]["hung"]),
               (-13, lambda: self.today not in self.days(show)),
               (-16, lambda: any(self.things[thing]["back"] is not None or self.hangs(thing) for thing in booked())),
               (-61, lambda: any(self.things[thing]["harm"] >= 3 for thing in booked())),
               (-12, lambda: len(self.there(self.shows[show]["hall"]) | set(booked()))
                > self.places[self.shows[show]["hall"]]["room"])]
        for thing in booked():
            self.put(thing, self.shows[show]["hall"])
        self.shows[show]["hung"] = True
        yield len(booked())

    def down_call(self, show, place):
        yield [(-2, lambda: show not in self.shows or place >= len(self.places)),
               (-6, lambda: not self.shows[show]["hung"]), (-22, lambda: self.kind(place) in (1, 3)),
               (-12, lambda: len(self.there(place) | set(self.shows[show]["booked"])) > self.places[place]["room"])]
        booked = self.shows.pop(show)["booked"]
        for thing in booked:
            self.put(thing, place)
        yield len(booked)

    def cancel_call(self, show):
        yield [(-2, lambda: show not in self.shows), (-15, lambda: self.shows[show]["hung"])]
        del self.shows[show]
        yield 0

    def where_call(self, thing, day):
        yield [(-2, lambda: thing >= len(self.things)), (-22, lambda: day > self.today),
               (-6, lambda: day < self.things[thing]["came"])]
        yield [self.at(thing, day)]

    def dose_call(self, thing, day):
        yield [(-2, lambda: thing >= len(self.things)), (-22, lambda: day > self.today)]
        yield [self.dose(thing, day)]

    def until_call(self, thing):
        yield [(-2, lambda: thing >= len(self.things)),
               (-33, lambda: self.dose(thing, self.today) > self.things[thing]["limit"])]
        day = self.today
        total = self.dose(thing, day) + self.light(self.now(thing), self.today)
        while day < 2000 and total <= self.things[thing]["limit"]:
            day += 1
            total += self.light(self.now(thing), self.today)
        yield [day]

    def within(self, outer):
        """The places that are this one or within it; none if it isn't there."""
        found = {outer} & set(range(len(self.places)))
        for place in range(len(self.places)):
            if self.places[place]["up"] in found:
                found.add(place)
        return found

    def told(self, is_so):
        things = [thing for thing in range(len(self.things)) if is_so(thing)]
        return [len(things), sum(2 ** thing for thing in things)]

    def inside_call(self, place):
        yield [(-2, lambda: place >= len(self.places))]
        yield self.told(lambda thing: self.now(thing) in self.within(place))

    def overdue_call(self):
        yield []
        yield self.told(lambda thing: (self.things[thing]["back"] or 2001) < self.today)

    def must_call(self):
        yield []
        yield self.told(lambda thing: self.kind(self.now(thing)) == 1 and (
            self.things[thing]["harm"] >= 3 or self.dose(thing, self.today) > self.things[thing]["limit"]))

    def is_so(self, tree, thing):
        word = tree[0]
        if word == "or":
            return self.is_so(tree[1], thing) or self.is_so(tree[2], thing)
        if word == "and":
            return self.is_so(tree[1], thing) and self.is_so(tree[2], thing)
        if word == "not":
            return not self.is_so(tree[1], thing)
        if word == "in":
            return self.now(thing) in self.within(tree[1])
        if len(tree) == 1:
            return {"all": True, "lent": self.things[thing]["back"] is not None,
                    "shown": self.kind(self.now(thing)) == 1}[word]
        value = self.dose(thing, self.today) if word == "light" else self.things[thing][word]
        return {"<": value < tree[2], "=": value == tree[2], ">": value > tree[2]}[tree[1]]

    def no_question(self, text):
        try:
            tree_of(parts_of(text))
        except NoQuestion:
            return True
        return False

    def find_call(self, n, length, *row):
        text = bytes(row[:n])
        yield [(-22, lambda: n > 120), (-71, lambda: self.no_question(text))]
        tree = tree_of(parts_of(text))
        yield self.told(lambda thing: self.is_so(tree, thing))

    def write_call(self, n, length, *row):
        text = bytes(row[:n])
        yield [(-22, lambda: n > 120), (-71, lambda: self.no_question(text)), (-75, lambda: len(written(text)) > 120)]
        yield [len(written(text))] + list(written(text).ljust(120, b"\0"))

    def entry_call(self, k):
        yield [(-2, lambda: k >= len(self.entries))]
        yield [len(self.entries)] + (self.entries[k] + [0] * 13)[:13]

    def state_call(self):
        yield []
        yield [self.today, len(self.places), len(self.things), len(self.shows), len(self.entries)]
