"""next_way: the rules 3 and 4 of point 6, and point 5."""

import itertools
import unittest

from liftwell.ways import next_way


class NextWay(unittest.TestCase):
    def test_nothing_wanted(self):
        self.assertIsNone(next_way(0, "up", []))
        self.assertIsNone(next_way(0, "down", []))
        self.assertIsNone(next_way(7, "up", []))

    def test_own_floor_alone(self):
        self.assertIsNone(next_way(4, "up", [4]))
        self.assertIsNone(next_way(4, "down", [4]))
        self.assertIsNone(next_way(0, "up", [0, 0, 0]))

    def test_ahead(self):
        self.assertEqual(next_way(4, "up", [5]), "up")
        self.assertEqual(next_way(4, "up", [999]), "up")
        self.assertEqual(next_way(4, "down", [3]), "down")
        self.assertEqual(next_way(4, "down", [0]), "down")

    def test_behind_turns_the_way(self):
        self.assertEqual(next_way(4, "up", [3]), "down")
        self.assertEqual(next_way(4, "up", [0]), "down")
        self.assertEqual(next_way(4, "down", [5]), "up")
        self.assertEqual(next_way(4, "down", [999]), "up")

    def test_ahead_goes_before_behind_however_far(self):
        self.assertEqual(next_way(4, "up", [3, 999]), "up")
        self.assertEqual(next_way(4, "up", [0, 1, 2, 3, 3, 5]), "up")
        self.assertEqual(next_way(900, "down", [901, 0]), "down")

    def test_own_floor_among_others(self):
        self.assertEqual(next_way(4, "up", [4, 6]), "up")
        self.assertEqual(next_way(4, "up", [4, 2]), "down")
        self.assertEqual(next_way(4, "down", [6, 4]), "up")

    def test_a_floor_several_times(self):
        self.assertEqual(next_way(4, "up", [2, 2, 2]), "down")
        self.assertEqual(next_way(4, "up", [2, 5, 2, 5, 2]), "up")
        self.assertEqual(next_way(4, "down", [4, 5, 5, 4]), "up")

    def test_any_order(self):
        for wanted in itertools.permutations([1, 3, 4, 8]):
            self.assertEqual(next_way(4, "up", list(wanted)), "up")
            self.assertEqual(next_way(4, "down", list(wanted)), "down")
        for wanted in itertools.permutations([1, 3, 4, 4]):
            self.assertEqual(next_way(4, "up", list(wanted)), "down")

    def test_floors_far_beyond_a_house(self):
        far = 10 ** 40
        self.assertEqual(next_way(far, "up", [far + 1]), "up")
        self.assertEqual(next_way(far, "up", [far - 1, far]), "down")
        self.assertIsNone(next_way(far, "down", [far]))

    def test_every_small_list(self):
        for length in range(4):
            for wanted in itertools.product(range(5), repeat=length):
                above = any(floor > 2 for floor in wanted)
                below = any(floor < 2 for floor in wanted)
                up = "up" if above else "down" if below else None
                down = "down" if below else "up" if above else None
                self.assertEqual(next_way(2, "up", list(wanted)), up)
                self.assertEqual(next_way(2, "down", list(wanted)), down)

    def test_the_list_stays_as_it_was(self):
        wanted = [5, 1, 4, 1, 9, 4]
        for here, way in itertools.product(range(11), ["up", "down"]):
            next_way(here, way, wanted)
            self.assertEqual(wanted, [5, 1, 4, 1, 9, 4])


if __name__ == "__main__":
    unittest.main()
