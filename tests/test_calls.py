"""The calls map, set, goal, noGoal, far and field on ordinary maps."""

import unittest

from helper import ask, last

# The upper row is slow; the middle of the second one is walled.
ORDINARY = ("map", 4, 3, [1, 9, 9, 1,
                          1, 0, 0, 1,
                          1, 2, 3, 1])
# The right column is cut off from the left one.
CUT_OFF = ("map", 3, 2, [1, 0, 1,
                         5, 0, 1])


class MapTest(unittest.TestCase):
    def test_tells_places_and_those_that_are_not_walls(self):
        self.assertEqual(ask(ORDINARY), [[12, 10]])
        self.assertEqual(ask(CUT_OFF), [[6, 4]])
        self.assertEqual(ask(("map", 1, 1, [7])), [[1, 1]])

    def test_of_walls_alone(self):
        told = ask(("map", 2, 2, [0, 0, 0, 0]), ("field",), ("goal", 0, 0), ("field",), ("far", 0, 0))
        self.assertEqual(told, [[4, 0], [0, 0, 0, 0], [0], [0, 0, 0, 0], [-6]])

    def test_is_the_map_then_without_goals(self):
        told = ask(("map", 2, 1, [1, 1]), ("goal", 0, 0), ("map", 1, 3, [1, 2, 3]), ("field",), ("noGoal", 0, 0),
                   ("goal", 0, 2), ("field",), ("far", 1, 0))
        self.assertEqual(told[2:], [[3, 3], [0, 0, 0], [-2], [3], [6, 4, 1], [-2]])

    def test_costs_stand_row_by_row(self):
        told = ask(("map", 3, 2, [1, 2, 3, 4, 5, 6]), ("goal", 0, 0), ("far", 2, 0), ("far", 0, 1), ("far", 2, 1))
        self.assertEqual(told[2:], [[3], [1], [6]])

    def test_forgets_goals_so_that_six_more_may_come(self):
        goals = [("goal", x, 0) for x in range(6)]
        row = ("map", 7, 1, [1] * 7)
        told = ask(row, *goals, row, *goals, ("goal", 6, 0))
        self.assertEqual(told[7:], [[7, 7]] + [[7]] * 6 + [[-5]])


class GoalTest(unittest.TestCase):
    def test_without_goals_all_is_nowhere(self):
        told = ask(ORDINARY, ("field",), ("far", 0, 0), ("set", 0, 0, 2))
        self.assertEqual(told[1:], [[0] * 12, [-6], [0]])

    def test_one_goal(self):
        told = ask(ORDINARY, ("goal", 3, 0), ("field",))
        self.assertEqual(told[1:], [[10], [11, 11, 2, 1,
                                           10, 0, 0, 2,
                                           9, 7, 4, 3]])

    def test_of_several_goals_the_nearest_counts(self):
        told = ask(("map", 5, 1, [1] * 5), ("goal", 0, 0), ("goal", 4, 0), ("field",), ("goal", 2, 0), ("field",))
        self.assertEqual(told[1:], [[5], [5], [1, 2, 3, 2, 1], [5], [1, 2, 1, 2, 1]])

    def test_the_cheapest_goal_counts_not_the_one_fewest_places_off(self):
        told = ask(("map", 5, 1, [50, 1, 1, 1, 1]), ("goal", 0, 0), ("goal", 4, 0), ("far", 1, 0))
        self.assertEqual(told[3], [3])

    def test_a_part_that_is_cut_off_is_nowhere(self):
        told = ask(CUT_OFF, ("goal", 0, 0), ("field",), ("far", 2, 0), ("goal", 2, 1), ("field",), ("far", 2, 0))
        self.assertEqual(told[1:], [[2], [1, 0, 0, 2, 0, 0], [-6], [4], [1, 0, 2, 2, 0, 1], [1]])

    def test_one_in_a_wall_counts_for_nothing(self):
        told = ask(CUT_OFF, ("goal", 1, 0), ("field",), ("far", 1, 0), ("goal", 0, 1), ("field",))
        self.assertEqual(told[1:], [[0], [0] * 6, [-6], [2], [6, 0, 0, 1, 0, 0]])

    def test_one_in_a_wall_is_a_goal_all_the_same(self):
        told = ask(CUT_OFF, ("goal", 1, 0), ("goal", 1, 0), ("set", 1, 0, 4), ("field",), ("noGoal", 1, 0),
                   ("noGoal", 1, 0))
        self.assertEqual(told[1:], [[0], [-4], [5], [5, 1, 5, 6, 0, 6], [0], [-2]])

    def test_taken_away_out_of_a_wall(self):
        told = ask(CUT_OFF, ("goal", 1, 0), ("noGoal", 1, 0), ("set", 1, 0, 4), ("goal", 1, 0))
        self.assertEqual(told[1:], [[0], [0], [0], [5]])

    def test_taken_away_and_put_again(self):
        told = ask(ORDINARY, ("goal", 3, 0), ("field",), ("noGoal", 3, 0), ("field",), ("goal", 3, 0), ("field",))
        self.assertEqual(told[3:5], [[0], [0] * 12])
        self.assertEqual(told[5:], told[1:3])

    def test_one_of_two_taken_away(self):
        told = ask(("map", 4, 1, [1] * 4), ("goal", 0, 0), ("goal", 3, 0), ("noGoal", 0, 0), ("field",))
        self.assertEqual(told[3:], [[4], [4, 3, 2, 1]])

    def test_taken_away_leaves_room_for_another(self):
        told = ask(("map", 7, 1, [1] * 7), *[("goal", x, 0) for x in range(6)], ("noGoal", 2, 0), ("goal", 6, 0),
                   ("field",), ("goal", 2, 0))
        self.assertEqual(told[7:], [[7], [7], [1, 1, 2, 1, 1, 1, 1], [-5]])


class SetTest(unittest.TestCase):
    def test_makes_ground_slow_and_quick(self):
        told = ask(("map", 3, 1, [1, 1, 1]), ("goal", 0, 0), ("set", 1, 0, 99), ("field",), ("set", 1, 0, 2), ("field",))
        self.assertEqual(told[2:], [[3], [1, 2, 101], [3], [1, 2, 4]])

    def test_stepping_off_a_place_costs_nothing(self):
        told = ask(("map", 3, 1, [1, 1, 1]), ("goal", 0, 0), ("set", 2, 0, 99), ("far", 2, 0))
        self.assertEqual(told[2:], [[3], [2]])

    def test_stepping_onto_the_goal_costs_too(self):
        told = ask(("map", 3, 1, [1, 1, 1]), ("goal", 0, 0), ("set", 0, 0, 40), ("field",))
        self.assertEqual(told[2:], [[3], [1, 41, 42]])

    def test_a_place_becomes_a_wall_and_comes_back(self):
        told = ask(("map", 3, 1, [1, 1, 1]), ("goal", 0, 0), ("set", 1, 0, 0), ("field",), ("far", 1, 0), ("far", 2, 0),
                   ("set", 1, 0, 5), ("field",))
        self.assertEqual(told[2:], [[1], [1, 0, 0], [-6], [-6], [3], [1, 2, 7]])

    def test_a_goal_becomes_a_wall_and_comes_back(self):
        told = ask(("map", 3, 1, [1, 1, 1]), ("goal", 0, 0), ("set", 0, 0, 0), ("field",), ("far", 0, 0),
                   ("set", 0, 0, 3), ("field",))
        self.assertEqual(told[2:], [[0], [0, 0, 0], [-6], [3], [1, 4, 5]])

    def test_a_wall_that_is_opened_joins_what_was_cut_off(self):
        told = ask(CUT_OFF, ("goal", 0, 0), ("set", 1, 1, 7), ("field",))
        self.assertEqual(told[2:], [[5], [1, 0, 15, 2, 7, 14]])

    def test_a_wall_elsewhere_makes_a_detour(self):
        told = ask(("map", 3, 2, [1, 1, 1, 2, 2, 2]), ("goal", 0, 0), ("far", 2, 0), ("set", 1, 0, 0), ("far", 2, 0))
        self.assertEqual(told[2:], [[2], [5], [7]])


class FarAndFieldTest(unittest.TestCase):
    def test_far_is_nought_at_a_goal(self):
        self.assertEqual(last(ORDINARY, ("goal", 1, 0), ("far", 1, 0)), [0])

    def test_column_stands_ahead_of_row(self):
        told = ask(("map", 3, 2, [1, 2, 3, 4, 5, 6]), ("goal", 2, 1), ("far", 2, 0), ("far", 2, 1), ("far", 1, 1))
        self.assertEqual(told[2:], [[6], [0], [6]])

    def test_field_is_one_more_than_far_of_each_place(self):
        places = [(x, y) for y in range(3) for x in range(4)]
        told = ask(ORDINARY, ("goal", 0, 0), ("goal", 2, 2), ("field",), *[("far", x, y) for x, y in places])
        fars = [0 if far == [-6] else far[0] + 1 for far in told[4:]]
        self.assertEqual(fars, told[3])

    def test_asking_changes_nothing(self):
        told = ask(ORDINARY, ("goal", 0, 0), ("field",), ("far", 3, 0), ("far", 1, 1), ("field",), ("field",))
        self.assertEqual(told[5], told[2])
        self.assertEqual(told[6], told[2])

    def test_no_way_goes_aslant_or_round_the_edge(self):
        told = ask(("map", 2, 2, [1, 0, 0, 1]), ("goal", 0, 0), ("field",))
        self.assertEqual(told[1:], [[1], [1, 0, 0, 0]])
        told = ask(("map", 3, 3, [1, 1, 1, 0, 0, 0, 1, 1, 1]), ("goal", 2, 0), ("field",))
        self.assertEqual(told[1:], [[3], [3, 2, 1, 0, 0, 0, 0, 0, 0]])
        told = ask(("map", 3, 2, [1, 0, 1, 1, 0, 1]), ("goal", 2, 0), ("field",))
        self.assertEqual(told[1:], [[2], [0, 0, 1, 0, 0, 2]])


class BeginningTest(unittest.TestCase):
    def test_is_one_place_that_costs_one_without_goals(self):
        self.assertEqual(ask(("field",)), [[0]])
        self.assertEqual(ask(("far", 0, 0)), [[-6]])
        self.assertEqual(ask(("goal", 0, 0), ("far", 0, 0), ("field",)), [[1], [0], [1]])
        self.assertEqual(ask(("far", 1, 0), ("far", 0, 1)), [[-2], [-2]])

    def test_its_place_is_no_wall(self):
        self.assertEqual(ask(("goal", 0, 0))[0], [1])

    def test_may_be_changed_before_any_map(self):
        told = ask(("set", 0, 0, 0), ("goal", 0, 0), ("far", 0, 0), ("set", 0, 0, 99), ("far", 0, 0), ("noGoal", 0, 0),
                   ("far", 0, 0))
        self.assertEqual(told, [[0], [0], [-6], [1], [0], [0], [-6]])


if __name__ == "__main__":
    unittest.main()
