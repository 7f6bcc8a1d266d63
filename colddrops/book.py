"""What was done since the begin: the loads, and the drops in their order."""


class DoneDrop:
    """One drop as it was driven."""

    def __init__(self, number, litres, minute, frost, too_warm):
        self.number = number
        self.litres = litres
        self.minute = minute
        self.frost = frost
        self.too_warm = too_warm


class Book:
    """All loads and drops, of whichever load."""

    def __init__(self):
        self.loads = 0
        self.done_drops = []

    def add_load(self):
        self.loads += 1

    def add_drop(self, drop):
        self.done_drops.append(drop)

    def litres_dropped(self):
        return sum([drop.litres for drop in self.done_drops])

    def tenths_too_warm(self):
        """Of each drop that was too warm, by how many tenths."""
        return [drop.too_warm for drop in self.done_drops if drop.too_warm > 0]
