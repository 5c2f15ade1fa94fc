"""A day of the house: its deeds, their answers, and the trips of its people."""

from liftwell.lift import PART, Lift


class Person:
    def __init__(self, start, goal, pressed):
        self.start = start
        self.goal = goal
        self.pressed = pressed
        self.entered = None
        self.left = None

    def wanted_floor(self):
        """The floor that is wanted for this person, None once they have left."""
        if self.entered is None:
            return self.start
        if self.left is None:
            return self.goal
        return None

    def pass_doors(self, tick):
        """Enters or leaves, where the doors part at the floor that this person wants."""
        if self.entered is None:
            self.entered = tick
        else:
            self.left = tick

    def trip(self):
        return (self.start, self.goal, self.pressed, self.entered, self.left)


class Day:
    def __init__(self, floors):
        self.floors = floors
        self.lift = Lift()
        self.people = []
        self.ticks = 0

    def is_floor(self, number):
        return number >= 0 and number < self.floors

    def press(self, start, goal):
        """The number of the person who presses, None where the press is refused."""
        if not self.is_floor(start) or not self.is_floor(goal) or start == goal:
            return None
        self.people.append(Person(start, goal, self.ticks))
        return len(self.people) - 1

    def wanted(self):
        """The floors that are wanted, each once for everybody who wants it."""
        found = []
        for person in self.people:
            floor = person.wanted_floor()
            if floor is not None:
                found.append(floor)
        return found

    def pass_tick(self):
        self.ticks = self.ticks + 1
        done = self.lift.act(self.wanted())
        if done == PART:
            self.exchange()
        return done

    def exchange(self):
        """All who want the lift's floor enter or leave there."""
        for person in self.people:
            # Start and goal differ, so whoever enters here can't leave in the same tick.
            if person.wanted_floor() == self.lift.floor:
                person.pass_doors(self.ticks)

    def answer(self, deed):
        if deed[0] == "press":
            return self.press(deed[1], deed[2])
        return self.pass_tick()


def answers(floors, deeds):
    """The answers of a day, one for each deed."""
    day = Day(floors)
    given = []
    for deed in deeds:
        given.append(day.answer(deed))
    return given


def day_behind(floors, deeds):
    day = Day(floors)
    for deed in deeds:
        day.answer(deed)
    return day


def trips(floors, deeds):
    """The trips behind a day, in the order of the people's numbers."""
    day = day_behind(floors, deeds)
    return [person.trip() for person in day.people]


def lift_behind(floors, deeds):
    """The lift's floor behind a day, whether its doors are apart, and its way."""
    lift = day_behind(floors, deeds).lift
    return (lift.floor, lift.apart, lift.way)
