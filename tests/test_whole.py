"""What holds over whole days: the rules told a second time, and the bounds of point 8."""

import itertools
import random
import unittest

from liftwell.day import answers, lift_behind, trips
from reference import run

TICK = ("tick",)


def presses(floors):
    return [("press", start, goal) for start in range(floors) for goal in range(floors) if start != goal]


def chance_day(chance, floors, length):
    near = range(-1, floors + 1)
    ticking = chance.choice([1, 3, 8])
    deeds = []
    while len(deeds) < length:
        if chance.randrange(ticking + 1):
            deeds.append(TICK)
        else:
            deeds.append(("press", chance.choice(near), chance.choice(near)))
    return deeds


class AgainstTheReference(unittest.TestCase):
    def compare(self, floors, deeds):
        # A plain comparison: unittest's own takes minutes to lay out how two long lists differ.
        told = (answers(floors, deeds), trips(floors, deeds), lift_behind(floors, deeds))
        if told != run(floors, deeds):
            self.fail(f"not as the reference has it: {floors} floors, {deeds}")

    def test_every_short_day_of_two_floors(self):
        for deeds in itertools.product([TICK] + presses(2), repeat=8):
            self.compare(2, list(deeds))

    def test_every_short_day_of_three_floors_with_ticks_behind(self):
        for deeds in itertools.product([TICK] + presses(3), repeat=4):
            for gap in (1, 2, 3):
                spread = []
                for deed in deeds:
                    spread.extend([deed] + [TICK] * gap)
                self.compare(3, spread)

    def test_days_by_chance(self):
        chance = random.Random(20)
        for number in range(300):
            floors = chance.choice([2, 3, 4, 5, 8, 13])
            self.compare(floors, chance_day(chance, floors, 80))

    def test_a_full_day(self):
        chance = random.Random(21)
        for floors in (2, 7, 40):
            self.compare(floors, chance_day(chance, floors, 700))


class Bounds(unittest.TestCase):
    """Point 8."""

    def check(self, floors, deeds):
        bound = 6 * floors
        end = deeds.count(TICK)
        for start, goal, pressed, entered, left in trips(floors, deeds):
            if entered is None:
                self.assertLessEqual(end - pressed, bound, "nobody waits too long")
                continue
            self.assertLessEqual(entered - pressed, bound)
            self.assertGreater(entered, pressed)
            if left is None:
                self.assertLessEqual(end - entered, bound, "nobody rides too long")
                continue
            self.assertLessEqual(left - entered, bound)
            self.assertGreater(left, entered)

    def test_everybody_presses_all_the_time(self):
        for floors in (2, 3, 4, 5):
            deeds = []
            for number in range(14 * floors):
                deeds.extend(presses(floors) + [TICK])
            self.check(floors, deeds)

    def test_one_floor_is_pressed_all_the_time(self):
        # Whoever keeps the doors busy at one floor must not hold the lift there.
        for floors, (start, goal) in itertools.product((2, 5), itertools.permutations(range(2))):
            deeds = [("press", floors - 1, 0)]
            for number in range(20 * floors):
                deeds.extend([("press", start, goal), TICK])
            self.check(floors, deeds)

    def test_days_by_chance(self):
        chance = random.Random(22)
        for number in range(200):
            floors = chance.choice([2, 3, 4, 6, 10])
            self.check(floors, chance_day(chance, floors, 700))

    def test_everybody_is_brought_to_their_goal(self):
        chance = random.Random(23)
        for number in range(100):
            floors = chance.choice([2, 3, 4, 6, 10])
            deeds = chance_day(chance, floors, 150) + [TICK] * (12 * floors)
            self.assertNotIn(None, [trip[4] for trip in trips(floors, deeds)])
            self.assertEqual(answers(floors, deeds + [TICK, TICK])[-1], "rest")

    def test_a_house_of_a_thousand_floors(self):
        deeds = [("press", 999, 0), ("press", 0, 999), TICK, ("press", 0, 1), ("press", 1, 0)]
        deeds = deeds + [TICK] * 12000
        self.check(1000, deeds)
        self.assertEqual(
            trips(1000, deeds),
            [(999, 0, 0, 1004, 2005), (0, 999, 0, 1, 1004), (0, 1, 1, 2005, 2008), (1, 0, 1, 4, 2005)],
        )


if __name__ == "__main__":
    unittest.main()
