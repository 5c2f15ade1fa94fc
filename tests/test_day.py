"""The points 1 to 10, with days whose answers are worked out by hand."""

import copy
import unittest

from liftwell.day import answers, lift_behind, trips

TICK = ("tick",)


def press(start, goal):
    return ("press", start, goal)


def ticks(count):
    return [TICK] * count


class House(unittest.TestCase):
    """Point 1."""

    def test_no_deeds(self):
        for floors in (2, 3, 1000):
            self.assertEqual(answers(floors, []), [])
            self.assertEqual(trips(floors, []), [])
            self.assertEqual(lift_behind(floors, []), (0, False, "up"))

    def test_two_floors(self):
        deeds = [press(1, 0), press(0, 1)] + ticks(11)
        self.assertEqual(
            answers(2, deeds),
            [0, 1, "part", "shut", "up", "part", "shut", "down", "part", "shut", "rest", "rest", "rest"],
        )
        self.assertEqual(trips(2, deeds), [(1, 0, 0, 4, 7), (0, 1, 0, 1, 4)])
        self.assertEqual(lift_behind(2, deeds), (0, False, "down"))

    def test_thousand_floors_and_seven_hundred_deeds(self):
        deeds = [press(0, 999)] + ticks(699)
        self.assertEqual(answers(1000, deeds), [0, "part", "shut"] + ["up"] * 697)
        self.assertEqual(trips(1000, deeds), [(0, 999, 0, 1, None)])
        self.assertEqual(lift_behind(1000, deeds), (697, False, "up"))

    def test_somewhat_beyond_the_bounds(self):
        deeds = [press(0, 1000), press(1000, 0)] + ticks(2006)
        expected = ["part", "shut"] + ["up"] * 1000 + ["part", "shut"] + ["down"] * 1000 + ["part", "shut"]
        self.assertEqual(answers(1001, deeds), [0, 1] + expected)
        self.assertEqual(trips(1001, deeds), [(0, 1000, 0, 1, 1003), (1000, 0, 0, 1003, 2005)])
        self.assertEqual(answers(1, [press(0, 0), press(0, 1), TICK]), [None, None, "rest"])

    def test_seven_hundred_deeds_of_many_people(self):
        deeds = [press(3, 1), press(1, 3)] * 340 + ticks(20)
        given = answers(4, deeds)
        self.assertEqual(given[:680], list(range(680)))
        self.assertEqual(
            given[680:],
            ["up", "part", "shut", "up", "up", "part", "shut", "down", "down", "part", "shut"] + ["rest"] * 9,
        )
        made = trips(4, deeds)
        self.assertEqual(len(made), 680)
        self.assertEqual(set(made[0::2]), {(3, 1, 0, 6, 10)})
        self.assertEqual(set(made[1::2]), {(1, 3, 0, 2, 6)})

    def test_what_is_handed_in_stays_as_it_was(self):
        deeds = [press(2, 0), TICK, press(9, 9), press(0, 2), press(-1, 0)] + ticks(20)
        before = copy.deepcopy(deeds)
        for ask in (answers, trips, lift_behind):
            ask(3, deeds)
            self.assertEqual(deeds, before)

    def test_nothing_is_kept_from_one_day_to_the_next(self):
        deeds = [press(2, 1)] + ticks(4)
        for ask in (answers, trips, lift_behind):
            first = ask(3, deeds)
            ask(5, [press(4, 0)] + ticks(30))
            self.assertEqual(ask(3, deeds), first)

    def test_kinds(self):
        deeds = [press(2, 1)] + ticks(3)
        self.assertIs(type(answers(3, deeds)), list)
        self.assertIs(type(trips(3, deeds)), list)
        self.assertIs(type(trips(3, deeds)[0]), tuple)
        self.assertIs(type(lift_behind(3, deeds)), tuple)
        self.assertIs(lift_behind(3, deeds)[1], True)
        self.assertIs(lift_behind(3, deeds + [TICK])[1], False)


class People(unittest.TestCase):
    """Points 2, 3 and 10."""

    def test_one_trip(self):
        deeds = [press(2, 4)] + ticks(9)
        self.assertEqual(
            answers(5, deeds), [0, "up", "up", "part", "shut", "up", "up", "part", "shut", "rest"]
        )
        self.assertEqual(trips(5, deeds), [(2, 4, 0, 3, 7)])

    def test_a_trip_as_it_grows(self):
        deeds = [TICK, TICK, press(1, 0)] + ticks(4)
        seen = [trips(3, deeds[:length]) for length in range(len(deeds) + 1)]
        self.assertEqual(seen[:3], [[], [], []])
        self.assertEqual(seen[3:5], [[(1, 0, 2, None, None)]] * 2)
        self.assertEqual(seen[5:], [[(1, 0, 2, 4, None)]] * 3)
        self.assertEqual(trips(3, deeds + [TICK]), [(1, 0, 2, 4, 7)])

    def test_pressed_counts_ticks_and_not_deeds(self):
        deeds = [press(1, 2), press(2, 0), press(5, 5), TICK, press(0, 1), TICK, TICK, press(2, 1)]
        self.assertEqual([trip[2] for trip in trips(3, deeds)], [0, 0, 1, 3])

    def test_numbers_and_trips_go_by_the_order_of_pressing(self):
        deeds = [press(2, 0), press(0, 2), press(1, 0)] + ticks(30)
        self.assertEqual(answers(3, deeds)[:3], [0, 1, 2])
        self.assertEqual([trip[:2] for trip in trips(3, deeds)], [(2, 0), (0, 2), (1, 0)])

    def test_all_at_a_floor_leave_and_enter_at_once(self):
        deeds = [press(0, 1), press(0, 1), press(1, 2), press(1, 0), press(0, 2)] + ticks(4)
        self.assertEqual(answers(3, deeds)[5:], ["part", "shut", "up", "part"])
        self.assertEqual(
            trips(3, deeds),
            [(0, 1, 0, 1, 4), (0, 1, 0, 1, 4), (1, 2, 0, 4, None), (1, 0, 0, 4, None), (0, 2, 0, 1, None)],
        )

    def test_who_rides_enters_only_once_and_passes_the_start_again(self):
        # Nobody wants floor 1 any more when the lift comes down past it.
        deeds = [press(1, 0), press(2, 0)] + ticks(8)
        self.assertEqual(
            answers(3, deeds)[2:], ["up", "part", "shut", "up", "part", "shut", "down", "down"]
        )
        self.assertEqual(trips(3, deeds), [(1, 0, 0, 2, None), (2, 0, 0, 5, None)])

    def test_the_goal_of_somebody_who_waits_is_not_wanted(self):
        deeds = [press(3, 1)] + ticks(7)
        self.assertEqual(answers(4, deeds)[1:], ["up", "up", "up", "part", "shut", "down", "down"])
        self.assertEqual(answers(4, [press(3, 0), TICK]), [0, "up"])


class Lift(unittest.TestCase):
    """Points 4 to 7."""

    def test_beginning(self):
        self.assertEqual(lift_behind(3, []), (0, False, "up"))
        self.assertEqual(answers(3, [TICK, TICK]), ["rest", "rest"])
        self.assertEqual(lift_behind(3, [TICK, TICK]), (0, False, "up"))

    def test_lift_as_it_goes(self):
        deeds = [press(1, 0)] + ticks(7)
        self.assertEqual(answers(3, deeds)[1:], ["up", "part", "shut", "down", "part", "shut", "rest"])
        self.assertEqual(
            [lift_behind(3, deeds[:length]) for length in range(1, 9)],
            [
                (0, False, "up"),
                (1, False, "up"),
                (1, True, "up"),
                (1, False, "up"),
                (0, False, "down"),
                (0, True, "down"),
                (0, False, "down"),
                (0, False, "down"),
            ],
        )

    def test_rule_1_shut_goes_before_all_others(self):
        deeds = [press(0, 2), TICK, press(0, 1), press(1, 0), press(2, 0), TICK]
        self.assertEqual(answers(3, deeds), [0, "part", 1, 2, 3, "shut"])
        self.assertEqual(lift_behind(3, deeds), (0, False, "up"))
        self.assertEqual(trips(3, deeds)[1], (0, 1, 1, None, None))

    def test_rule_2_parts_where_it_has_come_since_the_last_part(self):
        deeds = [press(0, 1), TICK, press(1, 3), press(2, 0)] + ticks(3)
        self.assertEqual(answers(4, deeds), [0, "part", 1, 2, "shut", "up", "part"])

    def test_rule_2_parts_where_the_doors_have_not_parted_yet(self):
        deeds = [press(2, 1), press(0, 1), TICK]
        self.assertEqual(answers(3, deeds), [0, 1, "part"])
        self.assertEqual(answers(3, [TICK] + deeds), ["rest", 0, 1, "part"])

    def test_rule_2_parts_again_where_no_other_floor_is_wanted(self):
        deeds = [press(0, 1)] + ticks(5) + [press(1, 0), press(1, 2)] + ticks(2)
        self.assertEqual(
            answers(3, deeds), [0, "part", "shut", "up", "part", "shut", 1, 2, "part", "shut"]
        )
        self.assertEqual(trips(3, deeds)[1:], [(1, 0, 5, 6, None), (1, 2, 5, 6, None)])

    def test_rule_2_does_not_part_again_where_another_floor_is_wanted(self):
        deeds = [press(0, 3), TICK, TICK, press(0, 2)] + ticks(13)
        self.assertEqual(
            answers(4, deeds),
            [0, "part", "shut", 1]
            + ["up", "up", "up", "part", "shut", "down", "down", "down", "part", "shut", "up", "up", "part"],
        )
        self.assertEqual(trips(4, deeds), [(0, 3, 0, 1, 6), (0, 2, 2, 11, 15)])

    def test_rule_2_does_not_part_again_where_only_a_floor_behind_is_wanted(self):
        deeds = [press(2, 1)] + ticks(4) + [press(2, 0)] + ticks(6)
        self.assertEqual(
            answers(3, deeds),
            [0, "up", "up", "part", "shut", 1, "down", "part", "shut", "up", "part", "shut"],
        )

    def test_rule_2_a_rest_is_no_coming(self):
        deeds = [press(0, 1)] + ticks(8) + [press(1, 0), press(0, 1)] + ticks(2)
        self.assertEqual(answers(2, deeds)[6:], ["rest", "rest", "rest", 1, 2, "down", "part"])

    def test_rule_3_goes_on_though_a_floor_behind_is_nearer(self):
        deeds = [press(5, 6)] + ticks(2) + [press(1, 0)] + ticks(4)
        self.assertEqual(answers(7, deeds), [0, "up", "up", 1, "up", "up", "up", "part"])

    def test_rule_3_downwards(self):
        deeds = [press(4, 0)] + ticks(8) + [press(3, 0)] + ticks(3)
        self.assertEqual(
            answers(5, deeds)[6:], ["shut", "down", "down", 1, "down", "down", "part"]
        )
        self.assertEqual(lift_behind(5, deeds), (0, True, "down"))

    def test_rule_3_stops_on_its_way_for_whoever_waits(self):
        deeds = [press(4, 0), press(2, 4)] + ticks(7)
        self.assertEqual(answers(5, deeds)[2:], ["up", "up", "part", "shut", "up", "up", "part"])

    def test_rule_4_turns_the_way_and_goes_in_one_tick(self):
        deeds = [press(2, 0)] + ticks(4)
        self.assertEqual(lift_behind(3, deeds), (2, False, "up"))
        self.assertEqual(answers(3, deeds + [TICK])[-1], "down")
        self.assertEqual(lift_behind(3, deeds + [TICK]), (1, False, "down"))

    def test_rule_4_turns_back_up(self):
        deeds = [press(1, 0)] + ticks(6)
        self.assertEqual(lift_behind(3, deeds), (0, False, "down"))
        deeds = deeds + [press(2, 0), TICK]
        self.assertEqual(answers(3, deeds)[-1], "up")
        self.assertEqual(lift_behind(3, deeds), (1, False, "up"))

    def test_rule_5_rests_with_its_way_and_floor_kept(self):
        deeds = [press(2, 1)] + ticks(7)
        self.assertEqual(lift_behind(4, deeds), (1, False, "down"))
        self.assertEqual(answers(4, deeds + ticks(3))[-3:], ["rest"] * 3)
        self.assertEqual(lift_behind(4, deeds + ticks(3)), (1, False, "down"))

    def test_press_where_the_doors_stand_apart_and_another_floor_is_wanted(self):
        deeds = [press(0, 1), TICK, press(0, 1)] + ticks(9)
        self.assertEqual(
            answers(2, deeds),
            [0, "part", 1, "shut", "up", "part", "shut", "down", "part", "shut", "up", "part"],
        )
        self.assertEqual(trips(2, deeds), [(0, 1, 0, 1, 4), (0, 1, 1, 7, 10)])

    def test_press_where_the_doors_stand_apart_and_no_other_floor_is_wanted(self):
        deeds = [press(0, 1)] + ticks(4) + [press(1, 0)] + ticks(5)
        self.assertEqual(
            answers(2, deeds),
            [0, "part", "shut", "up", "part", 1, "shut", "part", "shut", "down", "part"],
        )
        self.assertEqual(trips(2, deeds)[1], (1, 0, 4, 6, 9))


class Deeds(unittest.TestCase):
    """Point 9."""

    WRONG = [
        (-1, 2), (2, -1), (-1, -2), (5, 2), (2, 5), (5, 6), (6, 2), (2, 6),
        (10 ** 30, 1), (1, 10 ** 30), (-(10 ** 30), 1), (1, -(10 ** 30)),
        (0, 0), (3, 3), (4, 4), (5, 5), (-1, -1),
    ]

    def test_each_wrong_press_is_refused_and_nothing_is_done(self):
        for start, goal in self.WRONG:
            deeds = [press(start, goal)]
            self.assertEqual(answers(5, deeds + ticks(3)), [None, "rest", "rest", "rest"])
            self.assertEqual(trips(5, deeds + ticks(3)), [])
            self.assertEqual(lift_behind(5, deeds + ticks(3)), (0, False, "up"))

    def test_numbers_go_on_as_if_it_had_not_been(self):
        right = [press(1, 2), TICK, press(4, 0), press(0, 4), TICK, TICK, press(2, 1)] + ticks(40)
        for start, goal in self.WRONG:
            mixed = []
            for deed in right:
                mixed.extend([press(start, goal), deed])
            given = answers(5, mixed)
            self.assertEqual(given[0::2], [None] * len(right))
            self.assertEqual(given[1::2], answers(5, right))
            self.assertEqual(trips(5, mixed), trips(5, right))
            self.assertEqual(lift_behind(5, mixed), lift_behind(5, right))

    def test_the_outermost_floors_are_floors(self):
        for floors in (2, 3, 1000):
            deeds = [press(0, floors - 1), press(floors - 1, 0), press(0, floors), press(-1, 0)]
            self.assertEqual(answers(floors, deeds), [0, 1, None, None])

    def test_one_answer_for_each_deed(self):
        deeds = [TICK, press(1, 1), press(1, 0), TICK, TICK, press(0, 1), TICK]
        self.assertEqual(answers(2, deeds), ["rest", None, 0, "up", "part", 1, "shut"])

    def test_ticks_are_numbered_from_one(self):
        self.assertEqual(trips(2, [press(0, 1), TICK]), [(0, 1, 0, 1, None)])
        self.assertEqual(trips(2, [TICK, press(0, 1), TICK]), [(0, 1, 1, 2, None)])


if __name__ == "__main__":
    unittest.main()
