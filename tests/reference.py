"""The points 2 to 10 told once more, as near to their words as can be, to compare the program with.

It keeps the whole story of the lift and looks back into it, where the program keeps a mark.
"""


class Reference:
    def __init__(self, floors):
        self.floors = floors
        self.floor = 0
        self.apart = False
        self.way = "up"
        self.people = []
        self.story = []

    def wanted(self, floor):
        return any(
            (entered is None and start == floor)
            or (entered is not None and left is None and goal == floor)
            for start, goal, pressed, entered, left in self.people
        )

    def ahead(self, floor):
        return floor > self.floor if self.way == "up" else floor < self.floor

    def behind(self, floor):
        return floor != self.floor and not self.ahead(floor)

    def has_come_since_the_last_part(self):
        if "part" not in self.story:
            return False
        backwards = self.story[::-1]
        since = backwards[:backwards.index("part")]
        return "up" in since or "down" in since

    def may_part(self):
        others = [floor for floor in range(self.floors) if floor != self.floor]
        return self.wanted(self.floor) and (
            self.has_come_since_the_last_part()
            or "part" not in self.story
            or not any(self.wanted(floor) for floor in others)
        )

    def part(self, number):
        self.apart = True
        passed = []
        for start, goal, pressed, entered, left in self.people:
            if entered is not None and left is None and goal == self.floor:
                left = number
            elif entered is None and start == self.floor:
                entered = number
            passed.append((start, goal, pressed, entered, left))
        self.people = passed

    def move(self):
        self.floor += 1 if self.way == "up" else -1
        return self.way

    def one_tick(self):
        everywhere = range(self.floors)
        if self.apart:
            self.apart = False
            return "shut"
        if self.may_part():
            self.part(len(self.story) + 1)
            return "part"
        if any(self.wanted(floor) and self.ahead(floor) for floor in everywhere):
            return self.move()
        if any(self.wanted(floor) and self.behind(floor) for floor in everywhere):
            self.way = {"up": "down", "down": "up"}[self.way]
            return self.move()
        return "rest"

    def do(self, deed):
        if deed == ("tick",):
            done = self.one_tick()
            self.story.append(done)
            return done
        start, goal = deed[1:]
        if start not in range(self.floors) or goal not in range(self.floors) or start == goal:
            return None
        self.people.append((start, goal, len(self.story), None, None))
        return len(self.people) - 1


def run(floors, deeds):
    """A tuple of the answers, the trips and the lift behind a day."""
    house = Reference(floors)
    given = [house.do(deed) for deed in deeds]
    return given, house.people, (house.floor, house.apart, house.way)
