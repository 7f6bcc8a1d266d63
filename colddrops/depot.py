"""The object that the calls are made on: the roads, the lorry, and its load.

Each call answers a list: its number, then what else it tells. A refusal is its
number alone, and is given before anything is changed.
"""

from colddrops.book import Book, DoneDrop
from colddrops.refusals import CANNOT_BE, NONE_SUCH, NOTHING, NOT_NOW, OUT_OF_RANGE, SO_ALREADY, TOO_MANY
from colddrops.roads import MOST_STOPS, WORKS, Roads, Stop, place_of
from colddrops.trips import (
    all_trips, cold_drops, cold_trips, coldest, frost_at_drop, frost_needed, mildest, minutes_home, quickest,
    trip_along)

MOST_WAY_LOSS = 20
MOST_DOOR_LOSS = 100
MOST_ROOM = 100000
MOST_DOOR_MINUTES = 120
MOST_FROST = 600
MOST_LITRES = 10000
MOST_MINUTES = 600
LONGEST_ROW = 6


def within(value, least, most):
    return least <= value and value <= most


class Depot:
    """One lorry, its works and its stops."""

    def __init__(self):
        self.begun = False
        self.clear_all(0, 0, 0)

    def clear_all(self, way_loss, door_loss, room):
        self.roads = Roads(way_loss, door_loss)
        self.room = room
        self.minute = 0
        self.place = WORKS
        self.frost = 0
        self.undelivered = []
        self.book = Book()

    def begin(self, way_loss, door_loss, room):
        if not within(way_loss, 1, MOST_WAY_LOSS):
            return [OUT_OF_RANGE]
        if not within(door_loss, way_loss, MOST_DOOR_LOSS) or not within(room, 1, MOST_ROOM):
            return [OUT_OF_RANGE]
        self.begun = True
        self.clear_all(way_loss, door_loss, room)
        return [0]

    def add_stop(self, door_minutes, wanted, litres):
        if not within(door_minutes, 1, MOST_DOOR_MINUTES) or not within(wanted, 1, MOST_FROST):
            return [OUT_OF_RANGE]
        if not within(litres, 1, MOST_LITRES):
            return [OUT_OF_RANGE]
        number = len(self.roads.stops)
        if number >= MOST_STOPS:
            return [TOO_MANY]
        self.roads.stops.append(Stop(door_minutes, wanted, litres))
        return [number]

    def change_way(self, start, goal, minutes):
        if not self.roads.has_place(start) or not self.roads.has_place(goal):
            return [NONE_SUCH]
        if start == goal or minutes > MOST_MINUTES:
            return [OUT_OF_RANGE]
        before = self.roads.minutes_between(start, goal)
        self.roads.set_minutes(start, goal, minutes)
        return [before]

    def row_refusal(self, row):
        """What is wrong with a row of stops; 0 if nothing is."""
        if len(row) > LONGEST_ROW or len(set(row)) < len(row):
            return OUT_OF_RANGE
        for number in row:
            if not self.roads.has_stop(number):
                return NONE_SUCH
        return 0

    def frost_and_row_refusal(self, frost, row):
        refusal = self.row_refusal(row)
        if refusal == 0 and frost > MOST_FROST:
            return OUT_OF_RANGE
        return refusal

    def load_up(self, frost, row):
        refusal = self.frost_and_row_refusal(frost, row)
        if refusal != 0:
            return [refusal]
        if len(row) == 0:
            return [OUT_OF_RANGE]
        if len(self.undelivered) > 0 or self.place != WORKS:
            return [NOT_NOW]
        litres = sum([self.roads.stops[number].litres for number in row])
        if litres > self.room:
            return [TOO_MANY]
        self.undelivered = list(row)
        self.frost = frost
        self.book.add_load()
        return [litres]

    def pass_minutes(self, minutes, loss):
        self.minute += minutes
        self.frost = max(0, self.frost - minutes * loss)

    def go_to(self, place):
        self.pass_minutes(self.roads.minutes_between(self.place, place), self.roads.way_loss)
        self.place = place

    def drive_to(self, number):
        if number not in self.undelivered:
            return [NONE_SUCH]
        stop = self.roads.stops[number]
        self.go_to(place_of(number))
        drop = DoneDrop(number, stop.litres, self.minute, self.frost, max(0, stop.wanted - self.frost))
        self.book.add_drop(drop)
        self.pass_minutes(stop.door_minutes, self.roads.door_loss)
        self.undelivered.remove(number)
        return [drop.frost, drop.minute, drop.too_warm]

    def go_back(self):
        if self.place == WORKS:
            return [SO_ALREADY]
        if len(self.undelivered) > 0:
            return [NOT_NOW]
        self.go_to(WORKS)
        return [self.minute]

    def wait_here(self, minutes):
        if not within(minutes, 1, MOST_MINUTES):
            return [OUT_OF_RANGE]
        self.pass_minutes(minutes, self.roads.way_loss)
        return [self.minute, self.frost]

    def tell_need(self, row):
        refusal = self.row_refusal(row)
        if refusal != 0:
            return [refusal]
        trip = trip_along(self.roads, WORKS, row)
        return [frost_needed(trip), minutes_home(self.roads, trip)]

    def tell_mild(self, row):
        refusal = self.row_refusal(row)
        if refusal != 0:
            return [refusal]
        trip = mildest(self.roads, all_trips(self.roads, WORKS, row))
        return [frost_needed(trip), minutes_home(self.roads, trip)] + trip.row

    def tell_quick(self, frost, row):
        refusal = self.frost_and_row_refusal(frost, row)
        if refusal != 0:
            return [refusal]
        trips = cold_trips(all_trips(self.roads, WORKS, row), frost)
        if len(trips) == 0:
            return [CANNOT_BE]
        trip = quickest(self.roads, trips)
        return [minutes_home(self.roads, trip), frost_needed(trip)] + trip.row

    def tell_most(self, frost, row):
        refusal = self.frost_and_row_refusal(frost, row)
        if refusal != 0:
            return [refusal]
        trip = coldest(self.roads, all_trips(self.roads, WORKS, row), frost)
        return [cold_drops(trip, frost), minutes_home(self.roads, trip)] + trip.row

    def tell_drops(self, frost, row):
        refusal = self.frost_and_row_refusal(frost, row)
        if refusal != 0:
            return [refusal]
        trip = trip_along(self.roads, WORKS, row)
        told = [cold_drops(trip, frost)]
        for drop in trip.drops:
            told.extend([drop.minutes, frost_at_drop(drop, frost)])
        return told

    def trips_left(self):
        return all_trips(self.roads, self.place, self.undelivered)

    def tell_now(self):
        if len(self.undelivered) == 0:
            return [NOTHING]
        trips = cold_trips(self.trips_left(), self.frost)
        if len(trips) == 0:
            return [CANNOT_BE]
        trip = quickest(self.roads, trips)
        return [minutes_home(self.roads, trip)] + trip.row

    def tell_left(self):
        return [len(self.undelivered)] + self.undelivered

    def tell_slack(self):
        if len(self.undelivered) == 0:
            return [NOTHING]
        # The row that needs least bears the longest wait, whenever it is home.
        spare = self.frost - frost_needed(mildest(self.roads, self.trips_left()))
        if spare < 0:
            return [CANNOT_BE]
        return [spare // self.roads.way_loss]

    def tell_mins(self, start, goal):
        if not self.roads.has_place(start) or not self.roads.has_place(goal):
            return [NONE_SUCH]
        return [self.roads.minutes_between(start, goal)]

    def look_at(self, number):
        if not self.roads.has_stop(number):
            return [NONE_SUCH]
        stop = self.roads.stops[number]
        return [stop.door_minutes, stop.wanted, stop.litres]

    def tell_done(self):
        told = [len(self.book.done_drops)]
        for drop in self.book.done_drops:
            told.extend([drop.number, drop.minute, drop.frost, drop.too_warm])
        return told

    def tell_warm(self):
        tenths = self.book.tenths_too_warm()
        return [len(tenths), sum(tenths), max(tenths, default=0)]

    def tell_sums(self):
        return [0, self.book.loads, len(self.book.done_drops), self.book.litres_dropped(), self.minute]

    def tell_state(self):
        return [self.minute, len(self.roads.stops), self.place, len(self.undelivered), self.frost]
