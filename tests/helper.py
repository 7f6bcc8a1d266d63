"""Calls as they stand in the list, their answers taken apart, and a slow model to hold them against."""

from copy import copy
from itertools import permutations

from colddrops.lorry import answers

LARGEST = 4294967295


def begin(r=1, o=2, l=100000):
    return [0, r, o, l]


def stop(h=5, w=50, l=100):
    return [1, h, w, l]


def way(x, y, m):
    return [2, x, y, m]


def load(f, row):
    return [3, f, len(row)] + list(row)


def drive(s):
    return [4, s]


def back():
    return [5]


def wait(n):
    return [6, n]


def need(row):
    return [7, len(row)] + list(row)


def mild(row):
    return [8, len(row)] + list(row)


def quick(f, row):
    return [9, f, len(row)] + list(row)


def most(f, row):
    return [10, f, len(row)] + list(row)


def drops(f, row):
    return [11, f, len(row)] + list(row)


def now():
    return [12]


def left():
    return [13]


def slack():
    return [14]


def mins(x, y):
    return [15, x, y]


def look(s):
    return [16, s]


def done():
    return [17]


def warm():
    return [18]


def sums():
    return [19]


def state():
    return [20]


def ask(calls):
    """The answers to these calls on one new object, a list for each call."""
    told = answers([number for call in calls for number in call])
    parts = []
    at = 0
    while at < len(told):
        parts.append(told[at + 1:at + 1 + told[at]])
        at += 1 + told[at]
    assert at == len(told) and len(parts) == len(calls)
    return parts


def last(calls):
    return ask(calls)[-1]


# Calls that show all of an object; the questions first, as the rest changes it.
PROBE = (
    [state(), left(), done(), warm(), sums(), now(), slack()]
    + [mins(x, y) for x in range(8) for y in range(8)]
    + [look(s) for s in range(7)]
    + [need([s]) for s in range(7)]
    + [wait(1)]
    + [drive(s) for s in range(7)]
    + [back(), load(600, range(4)), load(600, range(5))]
    + [drive(s) for s in range(5)]
    + [back()]
    + [call for s in range(7) for call in (load(600, [s]), drive(s), back())]
    + [way(x, y, 0) for x in range(8) for y in range(8)]
    + [stop()] * 8
    + [load(600, range(6)), state(), done(), sums()]
)


def check_refused(test, before, call, number):
    """The call is refused with this number alone, and nothing is changed by it."""
    with_call = ask(list(before) + [call] + PROBE)
    without = ask(list(before) + PROBE)
    test.assertEqual(with_call[len(before)], [number])
    test.assertEqual(with_call[len(before) + 1:], without[len(before):])


class Model:
    """The document's words taken minute by minute; slow, and written apart from the program."""

    def __init__(self):
        self.begun = False

    def answer(self, call):
        if call[0] == 0:
            return self.begin(*call[1:])
        if not self.begun:
            return [-11]
        plain = {1: self.stop, 2: self.way, 4: self.drive, 5: self.back, 6: self.wait, 12: self.now, 13: self.left,
                 14: self.slack, 15: self.mins, 16: self.look, 17: self.done, 18: self.warm, 19: self.sums,
                 20: self.state}
        if call[0] in plain:
            return plain[call[0]](*call[1:])
        frost_first = {3: self.load, 9: self.quick, 10: self.most, 11: self.drops}
        if call[0] in frost_first:
            assert call[2] == len(call[3:])
            return frost_first[call[0]](call[1], call[3:])
        assert call[1] == len(call[2:])
        return {7: self.need, 8: self.mild}[call[0]](call[2:])

    def begin(self, r, o, l):
        if r not in range(1, 21) or o not in range(r, 101) or l not in range(1, 100001):
            return [-22]
        self.begun, self.r, self.o, self.room = True, r, o, l
        self.stops, self.ways = [], {}
        self.minute, self.place, self.frost, self.to_do = 0, 0, 0, []
        self.loads, self.log = 0, []
        return [0]

    def stop(self, h, w, l):
        if h not in range(1, 121) or w not in range(1, 601) or l not in range(1, 10001):
            return [-22]
        if len(self.stops) == 7:
            return [-28]
        new = len(self.stops) + 1
        for place in range(new):
            self.ways[place, new] = self.ways[new, place] = 30
        self.stops.append((h, w, l))
        return [new - 1]

    def way(self, x, y, m):
        if x not in range(len(self.stops) + 1) or y not in range(len(self.stops) + 1):
            return [-2]
        if x == y or m not in range(601):
            return [-22]
        was, self.ways[x, y] = self.ways[x, y], m
        return [was]

    def row_fault(self, row):
        if len(row) > 6 or any(row.count(s) > 1 for s in row):
            return [-22]
        return [-2] if any(s not in range(len(self.stops)) for s in row) else None

    def minutes(self, n, loss):
        for _ in range(n):
            self.minute += 1
            self.frost = max(self.frost - loss, 0)

    def load(self, f, row):
        if self.row_fault(row):
            return self.row_fault(row)
        if row == [] or f > 600:
            return [-22]
        if self.to_do or self.place:
            return [-16]
        litres = sum(self.stops[s][2] for s in row)
        if litres > self.room:
            return [-28]
        self.frost, self.to_do = f, list(row)
        self.loads += 1
        return [litres]

    def drive(self, s):
        if s not in self.to_do:
            return [-2]
        self.minutes(self.ways[self.place, s + 1], self.r)
        self.place = s + 1
        told = [self.frost, self.minute, max(self.stops[s][1] - self.frost, 0)]
        self.log.append((s, told[1], told[0], told[2]))
        self.minutes(self.stops[s][0], self.o)
        self.to_do = [other for other in self.to_do if other != s]
        return told

    def back(self):
        if self.place == 0:
            return [-17]
        if self.to_do:
            return [-16]
        self.minutes(self.ways[self.place, 0], self.r)
        self.place = 0
        return [self.minute]

    def wait(self, n):
        if n not in range(1, 601):
            return [-22]
        self.minutes(n, self.r)
        return [self.minute, self.frost]

    def measured(self, row, place=0):
        """What each drop needs at first, and the minutes till home; nothing to do at the works takes none."""
        minute, frost, needs = 0, 0, []
        for s in row:
            frost -= self.r * self.ways[place, s + 1]
            needs.append(self.stops[s][1] - frost)
            minute += self.ways[place, s + 1] + self.stops[s][0]
            frost -= self.o * self.stops[s][0]
            place = s + 1
        return needs, minute + (self.ways[place, 0] if place else 0)

    def all_rows(self, row, place=0):
        """Of each row of these stops: need, home, what each drop needs, its stops' places in the asked row."""
        found = []
        for spots in permutations(range(len(row))):
            needs, home = self.measured([row[spot] for spot in spots], place)
            found.append((max(needs + [0]), home, needs, spots))
        return found

    def need(self, row):
        if self.row_fault(row):
            return self.row_fault(row)
        needs, home = self.measured(row)
        return [max(needs + [0]), home]

    def mild(self, row):
        if self.row_fault(row):
            return self.row_fault(row)
        least, home, spots = min((t[0], t[1], t[3]) for t in self.all_rows(row))
        return [least, home] + [row[spot] for spot in spots]

    def quick(self, f, row):
        if self.row_fault(row):
            return self.row_fault(row)
        if f > 600:
            return [-22]
        good = [(t[1], t[0], t[3]) for t in self.all_rows(row) if t[0] <= f]
        if not good:
            return [-33]
        home, least, spots = min(good)
        return [home, least] + [row[spot] for spot in spots]

    def most(self, f, row):
        if self.row_fault(row):
            return self.row_fault(row)
        if f > 600:
            return [-22]
        warm, home, spots = min((sum(n > f for n in t[2]), t[1], t[3]) for t in self.all_rows(row))
        return [len(row) - warm, home] + [row[spot] for spot in spots]

    def drops(self, f, row):
        """Driven with a lorry of its own, which may carry any litres."""
        if self.row_fault(row):
            return self.row_fault(row)
        if f > 600:
            return [-22]
        other = copy(self)
        other.minute, other.place, other.frost, other.to_do, other.log = 0, 0, f, list(row), []
        driven = [other.drive(s) for s in row]
        return [sum(drop[2] == 0 for drop in driven)] + [n for drop in driven for n in (drop[1], drop[0])]

    def now(self):
        if not self.to_do:
            return [-6]
        good = [(t[1], t[0], t[3]) for t in self.all_rows(self.to_do, self.place) if t[0] <= self.frost]
        if not good:
            return [-33]
        home, _, spots = min(good)
        return [home] + [self.to_do[spot] for spot in spots]

    def left(self):
        return [len(self.to_do)] + self.to_do

    def slack(self):
        """Waited minute by minute with a lorry of its own, till it can't be any more."""
        if self.now()[0] < 0:
            return self.now()
        rows = self.all_rows(self.to_do, self.place)
        other = copy(self)
        waited = 0
        while any(t[0] <= other.frost for t in rows):
            other.minutes(1, self.r)
            waited += 1
        return [waited - 1]

    def mins(self, x, y):
        if x not in range(len(self.stops) + 1) or y not in range(len(self.stops) + 1):
            return [-2]
        return [0 if x == y else self.ways[x, y]]

    def look(self, s):
        return list(self.stops[s]) if s in range(len(self.stops)) else [-2]

    def done(self):
        return [len(self.log)] + [n for entry in self.log for n in entry]

    def warm(self):
        tenths = [entry[3] for entry in self.log]
        return [sum(n > 0 for n in tenths), sum(tenths), max(tenths + [0])]

    def sums(self):
        return [0, self.loads, len(self.log), sum(self.stops[entry[0]][2] for entry in self.log), self.minute]

    def state(self):
        return [self.minute, len(self.stops), self.place, len(self.to_do), self.frost]
