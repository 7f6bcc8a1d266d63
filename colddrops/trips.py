"""Rows of stops as trips: what they need, when they are home, and which is best."""

from colddrops.roads import WORKS, place_of


class Drop:
    """One drop of a trip: when it begins, what is lost till then, and which frost at first is just enough for it."""

    def __init__(self, minutes, lost, wanted):
        self.minutes = minutes
        self.lost = lost
        # A stop wants at least a tenth, so frost that is held at 0 never hides a warm drop here.
        self.needed = lost + wanted


class Trip:
    """Stops driven to one right behind the other, up to the last one's shut door."""

    def __init__(self, row, place, minutes, lost, drops):
        self.row = row
        self.place = place
        self.minutes = minutes
        self.lost = lost
        self.drops = drops


def trip_from(place):
    return Trip([], place, 0, 0, [])


def trip_with(roads, trip, number):
    """The trip with one more stop at its end."""
    stop = roads.stops[number]
    place = place_of(number)
    way = roads.minutes_between(trip.place, place)
    drop = Drop(trip.minutes + way, trip.lost + way * roads.way_loss, stop.wanted)
    minutes = drop.minutes + stop.door_minutes
    lost = drop.lost + stop.door_minutes * roads.door_loss
    return Trip(trip.row + [number], place, minutes, lost, trip.drops + [drop])


def trip_along(roads, place, row):
    trip = trip_from(place)
    for number in row:
        trip = trip_with(roads, trip, number)
    return trip


def all_trips(roads, place, row):
    """Every row of the same stops.

    Each step keeps the order of the row as it was asked, so of alike good trips
    the first in this list is the one to be told.
    """
    trips = [trip_from(place)]
    for length in range(len(row)):
        longer = []
        for trip in trips:
            for number in row:
                if number not in trip.row:
                    longer.append(trip_with(roads, trip, number))
        trips = longer
    return trips


def frost_needed(trip):
    return max([drop.needed for drop in trip.drops], default=0)


def frost_at_drop(drop, frost):
    """What is left, at this drop, of so much frost at first."""
    return max(0, frost - drop.lost)


def minutes_home(roads, trip):
    return trip.minutes + roads.minutes_between(trip.place, WORKS)


def cold_drops(trip, frost):
    return len([drop for drop in trip.drops if drop.needed <= frost])


def mildest(roads, trips):
    return min(trips, key=lambda trip: (frost_needed(trip), minutes_home(roads, trip)))


def cold_trips(trips, frost):
    """Those in which all drops are cold enough."""
    return [trip for trip in trips if frost_needed(trip) <= frost]


def quickest(roads, trips):
    return min(trips, key=lambda trip: (minutes_home(roads, trip), frost_needed(trip)))


def coldest(roads, trips, frost):
    """The one in which most drops are cold enough."""
    return min(trips, key=lambda trip: (-cold_drops(trip, frost), minutes_home(roads, trip)))
