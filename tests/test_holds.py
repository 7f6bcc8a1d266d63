"""What holds (a to f), and many lines held against the model."""

import random
import unittest
from itertools import permutations

from tests.helper import (
    LARGEST, Model, ask, back, begin, done, drive, drops, last, left, load, look, mild, mins, most, need, now, quick,
    slack, state, stop, sums, wait, warm, way)

NARROW = (0, 1, 2, 3, 5, 10)
WIDE = (0, 1, 29, 30, 31, 60, 599, 600)


def some_stops(chance, count, ways=NARROW):
    """A begun line with so many stops; few different numbers, so that ties come often."""
    r = chance.randint(1, 4)
    line = [begin(r, chance.randint(r, 8), 100000)]
    for _ in range(count):
        wanted = chance.choice((1, 20, 40, chance.randint(1, 120)))
        line.append(stop(chance.randint(1, 8), wanted, chance.randint(1, 9)))
    for x in range(count + 1):
        for y in range(count + 1):
            if x != y and chance.random() < 0.8:
                line.append(way(x, y, chance.choice(ways)))
    return line


def some_row(chance, count, longest=6):
    return chance.sample(range(count), chance.randint(1, min(count, longest)))


def some_call(chance):
    """Any call, mostly a sensible one."""
    row = chance.sample(range(4), chance.randint(1, 4))
    if chance.random() < 0.15:
        row = [chance.randint(0, 8) for _ in range(chance.randint(0, 8))]
    frost = chance.choice((0, 30, 100, 200, 300, 600, 601))
    return chance.choice((
        stop(chance.choice((0, 1, 5, 120, 121)), chance.choice((1, 50, 600)), chance.choice((1, 100, 10000, 10001))),
        way(chance.randint(0, 5), chance.randint(0, 5), chance.choice(WIDE + (601,))),
        load(frost, row), load(600, row),
        drive(chance.randint(0, 4)), drive(chance.randint(0, 4)), drive(chance.randint(0, 4)),
        back(), back(), wait(chance.choice((0, 1, 7, 600, 601))),
        need(row), mild(row), quick(frost, row), most(frost, row), drops(frost, row), drops(300, row),
        now(), now(), slack(), slack(), left(), mins(chance.randint(0, 5), chance.randint(0, 5)),
        look(chance.randint(0, 5)), done(), warm(), sums(), state(),
        begin(chance.choice((0, 1, 20, 21)), chance.choice((1, 20, 100, 101)), chance.choice((100, 20000)))
        if chance.random() < 0.1 else back(),
    ))


def some_line(chance):
    line = [begin(chance.randint(1, 5), chance.randint(5, 9), chance.choice((250, 20000, 100000)))]
    line += [stop(chance.randint(1, 9), chance.randint(1, 99), chance.choice((1, 100))) for _ in range(4)]
    return line + [some_call(chance) for _ in range(90)]


def any_call(chance):
    """Any call by its shape, mostly a foolish one."""
    number = chance.randint(0, 20)
    plain = (3, 3, 3, 1, 1, 0, 1, 0, 0, 1, 1, 1, 0, 0, 0, 2, 1, 0, 0, 0, 0)[number]
    values = (0, 1, 2, 5, 20, 21, 100, 101, 600, 601, 100000, 100001, LARGEST)
    call = [number] + [chance.choice(values[:chance.choice((4, 13))]) for _ in range(plain)]
    if number not in (3, 7, 8, 9, 10, 11):
        return call
    row = [chance.choice((0, 1, 2, 7, LARGEST)) for _ in range(chance.randint(0, 10))]
    return call + [len(row)] + row


def driven(line, frost, row):
    """The drops' answers and the minute home of a row that is really driven."""
    told = ask(line + [load(frost, row)] + [drive(s) for s in row] + [back()])[len(line) + 1:]
    return told[:-1], told[-1][0]


def on_the_way(chance):
    """A line at whose end something is to be driven to, at the works or at a stop."""
    line = some_stops(chance, 5)
    row = some_row(chance, 5)
    first = row[:chance.randrange(len(row))]
    if chance.random() < 0.3:
        line += [load(chance.choice((0, 600)), [4]), drive(4), back()]
    line.append(load(chance.choice((60, 120, 180, 240, 600)), chance.sample(row, len(row))))
    return line + [drive(s) for s in first] + [wait(chance.randint(1, 20))] * chance.randint(0, 1)


def driven_on(line, row):
    """By how many tenths the drops of this row are too warm, driven from the line's end, and the minute home."""
    told = ask(line + [drive(s) for s in row] + [back()])[len(line):]
    return sum(drop[2] for drop in told[:-1]), told[-1][0]


class AgainstTheModel(unittest.TestCase):
    def check(self, line):
        model = Model()
        self.assertEqual(ask(line), [model.answer(call) for call in line])

    def test_lines_of_any_calls(self):
        chance = random.Random(1)
        for _ in range(300):
            self.check(some_line(chance))

    def test_lines_of_any_numbers(self):
        chance = random.Random(9)
        for _ in range(300):
            self.check([any_call(chance) for _ in range(120)])

    def test_loads_that_are_driven(self):
        chance = random.Random(10)
        for _ in range(60):
            count = chance.randint(1, 5)
            line = some_stops(chance, count)
            for _ in range(3):
                row = some_row(chance, count)
                line += [load(chance.choice((0, 60, 120, 240, 600)), row), left(), now(), slack()]
                for s in chance.sample(row, len(row)):
                    line += [wait(chance.choice((0, 1, 5))), drive(s), left(), now(), slack(), state()]
                line += [back(), done(), warm(), sums(), state()]
            self.check(line)

    def test_rows(self):
        chance = random.Random(2)
        for _ in range(60):
            count = chance.randint(1, 7)
            line = some_stops(chance, count)
            for _ in range(4):
                row = some_row(chance, count)
                line += [need(row), mild(row)]
                for frost in (chance.randint(0, 200), chance.randint(0, 200), 600):
                    line += [quick(frost, row), most(frost, row), drops(frost, row)]
            self.check(line)

    def test_rows_around_what_they_need(self):
        chance = random.Random(3)
        for _ in range(60):
            line = some_stops(chance, 5)
            row = some_row(chance, 5)
            least = last(line + [mild(row)])[0]
            for frost in (least - 1, least, least + 1):
                line += [quick(frost, row), most(frost, row), drops(frost, row)]
            self.check(line)


class WhatHolds(unittest.TestCase):
    def test_a_so_cold_is_enough_and_a_tenth_less_is_not(self):
        chance = random.Random(4)
        for _ in range(100):
            line = some_stops(chance, 6)
            row = some_row(chance, 6)
            least, home = last(line + [need(row)])
            self.assertLessEqual(least, 600)
            drops, minute = driven(line, least, row)
            self.assertEqual([drop[2] for drop in drops], [0] * len(row))
            self.assertEqual(minute, home)
            drops, minute = driven(line, least - 1, row)
            self.assertGreater(sum(drop[2] for drop in drops), 0)
            self.assertEqual(minute, home)

    def test_a_drops_tells_the_same(self):
        chance = random.Random(11)
        for _ in range(100):
            line = some_stops(chance, 6)
            row = some_row(chance, 6)
            least = last(line + [need(row)])[0]
            self.assertEqual(last(line + [drops(least, row)])[0], len(row))
            self.assertLess(last(line + [drops(least - 1, row)])[0], len(row))

    def test_b_no_row_is_better(self):
        chance = random.Random(5)
        for _ in range(30):
            line = some_stops(chance, 4)
            row = some_row(chance, 4)
            frost = chance.randint(0, 150)
            rows = list(permutations(row))
            needs = ask(line + [need(other) for other in rows])[len(line):]
            best_mild, best_quick, best_most = ask(line + [mild(row), quick(frost, row), most(frost, row)])[-3:]
            self.assertEqual(best_mild[0], min(least for least, _ in needs))
            cold = [home for least, home in needs if least <= frost]
            self.assertEqual(best_quick[0], min(cold) if cold else -33)
            counts = [sum(drop[2] == 0 for drop in driven(line, frost, other)[0]) for other in rows]
            self.assertEqual(best_most[0], max(counts))

    def test_b_no_row_from_here_is_better_than_now(self):
        chance = random.Random(12)
        answered = 0
        for _ in range(80):
            line = on_the_way(chance)
            told, to_do, here = ask(line + [now(), left(), state()])[-3:]
            homes = []
            for row in permutations(to_do[1:]):
                tenths, minute = driven_on(line, row)
                if tenths == 0:
                    homes.append(minute - here[0])
            self.assertEqual(told[0], min(homes) if homes else -33)
            answered += told != [-33]
        self.assertTrue(20 < answered < 80, answered)

    def test_c_driven_as_drops_tells(self):
        chance = random.Random(13)
        for _ in range(60):
            line = some_stops(chance, 5)
            row = some_row(chance, 5)
            frost = chance.randint(0, 200)
            told = last(line + [drops(frost, row)])
            drive_told, _ = driven(line, frost, row)
            self.assertEqual(told[0], sum(drop[2] == 0 for drop in drive_told))
            self.assertEqual(told[1:], [n for drop in drive_told for n in (drop[1], drop[0])])

    def test_c_driven_as_now_tells(self):
        chance = random.Random(14)
        for _ in range(80):
            line = on_the_way(chance)
            told, before, entries, were_warm = ask(line + [now(), state(), done(), warm()])[-4:]
            if told == [-33]:
                continue
            row = told[1:]
            after = ask(line + [drive(s) for s in row] + [back(), state(), done(), warm(), left(), sums()])[len(line):]
            self.assertEqual(after[len(row)], [before[0] + told[0]])
            self.assertEqual(after[-5][:4], [before[0] + told[0], before[1], 0, 0])
            new = [n for s, drop in zip(row, after) for n in (s, drop[1], drop[0], 0)]
            self.assertEqual(after[-4], [entries[0] + len(row)] + entries[1:] + new)
            self.assertEqual(after[-3:-1], [were_warm, [0]])
            self.assertEqual(after[-1][2], entries[0] + len(row))

    def test_d_so_long_one_may_wait_and_a_minute_more_not(self):
        chance = random.Random(15)
        answered = 0
        for _ in range(80):
            line = on_the_way(chance)
            minutes, told, to_do = ask(line + [slack(), now(), left()])[-3:]
            rows = list(permutations(to_do[1:]))
            if minutes == [-33]:
                self.assertEqual(told, [-33])
                self.assertGreater(min(driven_on(line, row)[0] for row in rows), 0)
                continue
            answered += 1
            so_long = line + [wait(minutes[0])] * (minutes[0] > 0)
            longer = so_long + [wait(1)]
            self.assertGreaterEqual(last(so_long + [now()])[0], 0)
            self.assertEqual(min(driven_on(so_long, row)[0] for row in rows), 0)
            self.assertEqual(ask(longer + [now(), slack()])[-2:], [[-33], [-33]])
            self.assertGreater(min(driven_on(longer, row)[0] for row in rows), 0)
        self.assertTrue(20 < answered < 80, answered)

    def test_c_driven_as_told_it_is_as_cold_and_as_late_as_told(self):
        chance = random.Random(6)
        for _ in range(60):
            line = some_stops(chance, 5)
            row = some_row(chance, 5)
            frost = chance.randint(0, 200)
            told_mild, told_quick, told_most = ask(line + [mild(row), quick(frost, row), most(frost, row)])[-3:]
            drops, minute = driven(line, told_mild[0], told_mild[2:])
            self.assertEqual((sum(drop[2] for drop in drops), minute), (0, told_mild[1]))
            self.assertEqual(last(line + [need(told_mild[2:])]), told_mild[:2])
            drops, minute = driven(line, frost, told_most[2:])
            self.assertEqual([sum(drop[2] == 0 for drop in drops), minute], told_most[:2])
            if told_quick != [-33]:
                drops, minute = driven(line, frost, told_quick[2:])
                self.assertEqual((sum(drop[2] for drop in drops), minute), (0, told_quick[0]))
                self.assertEqual(last(line + [need(told_quick[2:])]), [told_quick[1], told_quick[0]])

    def test_e_no_load_above_the_room_and_each_stop_once(self):
        chance = random.Random(7)
        for _ in range(100):
            litres = [chance.randint(1, 10000) for _ in range(4)]
            room = chance.choice((sum(litres), sum(litres) - 1, sum(litres) + 1))
            line = [begin(1, 1, room)] + [stop(1, 1, amount) for amount in litres] + [load(600, [3, 0, 2, 1])]
            drives = [drive(s) for s in (2, 2, 1, 0, 1, 3, 3, 0)]
            told = ask(line + drives)
            if room < sum(litres):
                self.assertEqual(told[5:], [[-28]] + [[-2]] * 8)
            else:
                self.assertEqual(told[5], [sum(litres)])
                self.assertEqual([answer == [-2] for answer in told[6:]],
                                 [False, True, False, False, True, False, True, True])
                self.assertEqual(ask(line + drives + [left(), sums()])[-2:], [[0], [0, 1, 4, sum(litres), 124]])

    def test_f_what_is_refused_changes_nothing(self):
        chance = random.Random(8)
        for _ in range(200):
            line = some_line(chance)
            told = ask(line)
            taken = [spot for spot in range(len(line)) if told[spot][0] >= 0]
            self.assertEqual(ask([line[spot] for spot in taken]), [told[spot] for spot in taken])


if __name__ == "__main__":
    unittest.main()
