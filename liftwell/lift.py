"""The lift: its floor, its doors, its way, and what it does in a tick."""

from liftwell.ways import UP, floor_beside, next_way

SHUT = "shut"
PART = "part"
REST = "rest"


class Lift:
    def __init__(self):
        self.floor = 0
        self.apart = False
        self.way = UP
        # Doors that have parted at a stop part there again only where no other floor is
        # wanted; doors that have never parted count as those of a new stop.
        self.new_stop = True

    def act(self, wanted):
        """Does the first of the five rules that can be done, and answers what was done."""
        if self.apart:
            return self.shut_doors()
        way = next_way(self.floor, self.way, wanted)
        if self.floor in wanted and (self.new_stop or way is None):
            return self.part_doors()
        if way is None:
            return REST
        return self.go(way)

    def shut_doors(self):
        self.apart = False
        return SHUT

    def part_doors(self):
        self.apart = True
        self.new_stop = False
        return PART

    def go(self, way):
        self.way = way
        self.floor = floor_beside(self.floor, way)
        self.new_stop = True
        return way
