"""The stops, the ways between the places, and what a minute costs of the frost."""

WORKS = 0
MOST_STOPS = 7
FIRST_WAY = 30


class Stop:
    """What one stop asks of a drop."""

    def __init__(self, door_minutes, wanted, litres):
        self.door_minutes = door_minutes
        self.wanted = wanted
        self.litres = litres


class Roads:
    """All that a trip's minutes and frost depend on."""

    def __init__(self, way_loss, door_loss):
        self.way_loss = way_loss
        self.door_loss = door_loss
        self.stops = []
        self.ways = {}

    def has_stop(self, number):
        return number < len(self.stops)

    def has_place(self, place):
        return place <= len(self.stops)

    def minutes_between(self, start, goal):
        if start == goal:
            return 0
        # Only ways that were told are kept, so a new stop's ways need no filling in.
        return self.ways.get((start, goal), FIRST_WAY)

    def set_minutes(self, start, goal, minutes):
        self.ways[(start, goal)] = minutes


def place_of(number):
    """The works are place 0, so each stop's place is one more than its number."""
    return number + 1
