"""Every refusal of the calls: alone, where several hold at once, and that all is as it was then."""

import unittest

from helper import HIGHEST, ask, last

MAP = ("map", 3, 2, [1, 2, 0,
                     0, 4, 5])
START = [MAP, ("goal", 0, 0), ("goal", 2, 0), ("put", 1, 0)]
# What shows how all is: the crowd, the field, each place's goal and cost, that the map is no larger, who comes next.
PROBES = ([("crowd",), ("field",), ("goal", 0, 0), ("goal", 2, 0), ("far", 3, 0), ("far", 0, 2)]
          + [("goal", 1, 0), ("field",), ("set", 2, 0, 1), ("field",), ("noGoal", 0, 0), ("noGoal", 1, 0), ("field",)]
          + [("goal", 0, 1), ("goal", 1, 1), ("goal", 2, 1), ("goal", 0, 0), ("goal", 1, 0)]
          + [("put", 1, 1), ("go", 1), ("crowd",)])
OFF_THE_MAP = ((3, 0), (0, 2), (3, 2), (2, 2), (3, 1), (HIGHEST, 0), (0, HIGHEST), (HIGHEST, HIGHEST))
SIX_GOALS = [("map", 8, 1, [1] * 8)] + [("goal", x, 0) for x in range(6)]


class RefusalTest(unittest.TestCase):
    def assert_refused(self, call, number, start=START, probes=PROBES):
        """The call is refused so, and what is asked then is answered as if it had not stood there."""
        with self.subTest(call=call):
            told = ask(*start, call, *probes)
            at = len(start)
            self.assertEqual(told[at], [number])
            self.assertEqual(told[:at] + told[at + 1:], ask(*start, *probes))


class MapRefusals(RefusalTest):
    def test_not_one_to_twelve_wide(self):
        for wide in (0, 13, 14, 100, HIGHEST):
            self.assert_refused(("map", wide, 1, [1]), -1)
        self.assert_refused(("map", 13, 1, [1] * 13), -1)
        self.assert_refused(("map", 13, 12, [1] * 156), -1)
        self.assert_refused(("map", 0, 5, []), -1)

    def test_not_one_to_twelve_high(self):
        for high in (0, 13, 14, 100, HIGHEST):
            self.assert_refused(("map", 1, high, [1]), -1)
        self.assert_refused(("map", 1, 13, [1] * 13), -1)
        self.assert_refused(("map", 12, 13, [1] * 156), -1)
        self.assert_refused(("map", 5, 0, []), -1)

    def test_both_sides_wrong(self):
        self.assert_refused(("map", 0, 0, []), -1)
        self.assert_refused(("map", HIGHEST, HIGHEST, []), -1)
        self.assert_refused(("map", 16, 10, [1] * 160), -1)

    def test_not_as_many_costs_as_places(self):
        self.assert_refused(("map", 2, 2, [1, 1, 1]), -1)
        self.assert_refused(("map", 2, 2, [1, 1, 1, 1, 1]), -1)
        self.assert_refused(("map", 1, 1, []), -1)
        self.assert_refused(("map", 1, 1, [1, 1]), -1)
        self.assert_refused(("map", 12, 12, []), -1)
        self.assert_refused(("map", 12, 12, [1] * 143), -1)
        self.assert_refused(("map", 12, 12, [1] * 145), -1)
        self.assert_refused(("map", 12, 12, [1] * 160), -1)

    def test_a_cost_above_ninety_nine(self):
        for cost in (100, 101, 255, 256, 65536, HIGHEST):
            self.assert_refused(("map", 1, 1, [cost]), -1)
            self.assert_refused(("map", 3, 1, [cost, 1, 1]), -1)
            self.assert_refused(("map", 3, 1, [1, cost, 1]), -1)
            self.assert_refused(("map", 3, 1, [1, 1, cost]), -1)
        self.assert_refused(("map", 12, 12, [99] * 143 + [100]), -1)

    def test_all_at_once(self):
        self.assert_refused(("map", 0, 13, [HIGHEST] * 160), -1)

    def test_at_the_beginning_the_one_place_stays(self):
        probes = [("field",), ("far", 1, 0), ("goal", 0, 0), ("far", 0, 0)]
        self.assert_refused(("map", 2, 1, [1]), -1, start=[], probes=probes)
        self.assert_refused(("map", 2, 1, [1, 100]), -1, start=[], probes=probes)


class SetRefusals(RefusalTest):
    def test_above_ninety_nine(self):
        for cost in (100, 101, 256, HIGHEST):
            self.assert_refused(("set", 1, 0, cost), -1)
            self.assert_refused(("set", 2, 0, cost), -1)

    def test_not_on_the_map(self):
        for x, y in OFF_THE_MAP:
            for cost in (0, 1, 99):
                self.assert_refused(("set", x, y, cost), -2)

    def test_above_ninety_nine_is_told_ahead_of_not_on_the_map(self):
        self.assert_refused(("set", 3, 0, 100), -1)
        self.assert_refused(("set", HIGHEST, HIGHEST, HIGHEST), -1)

    def test_a_wall_where_somebody_stands(self):
        self.assert_refused(("set", 1, 0, 0), -4)
        self.assert_refused(("set", 0, 0, 0), -4, start=START + [("put", 0, 0)])
        self.assert_refused(("set", 2, 1, 0), -4, start=START + [("put", 2, 1)])


class GoalRefusals(RefusalTest):
    def test_not_on_the_map(self):
        for x, y in OFF_THE_MAP:
            self.assert_refused(("goal", x, y), -2)

    def test_it_is_one(self):
        self.assert_refused(("goal", 0, 0), -4)

    def test_it_is_one_in_a_wall(self):
        self.assert_refused(("goal", 2, 0), -4)

    def test_there_are_six(self):
        probes = [("field",), ("noGoal", 6, 0), ("noGoal", 5, 0), ("goal", 7, 0), ("field",)]
        self.assert_refused(("goal", 6, 0), -5, start=SIX_GOALS, probes=probes)

    def test_there_are_six_also_in_walls(self):
        row = ("map", 8, 1, [0, 0, 0, 1, 0, 0, 0, 1])
        start = [row] + [("goal", x, 0) for x in range(6)]
        self.assertEqual(ask(*start)[1:], [[0], [0], [0], [1], [1], [1]])
        probes = [("field",), ("noGoal", 6, 0), ("noGoal", 0, 0), ("goal", 7, 0), ("field",)]
        self.assert_refused(("goal", 6, 0), -5, start=start, probes=probes)
        self.assert_refused(("goal", 7, 0), -5, start=start, probes=probes)

    def test_there_are_six_of_which_some_became_walls(self):
        start = SIX_GOALS + [("set", 0, 0, 0), ("set", 1, 0, 0)]
        self.assert_refused(("goal", 6, 0), -5, start=start, probes=[("field",), ("set", 0, 0, 1), ("field",)])

    def test_not_on_the_map_is_told_ahead_of_there_are_six(self):
        self.assert_refused(("goal", 8, 0), -2, start=SIX_GOALS, probes=[("field",)])

    def test_it_is_one_is_told_ahead_of_there_are_six(self):
        self.assert_refused(("goal", 0, 0), -4, start=SIX_GOALS, probes=[("field",), ("noGoal", 0, 0), ("noGoal", 0, 0)])


class NoGoalRefusals(RefusalTest):
    def test_not_on_the_map(self):
        for x, y in OFF_THE_MAP:
            self.assert_refused(("noGoal", x, y), -2)

    def test_it_is_none(self):
        self.assert_refused(("noGoal", 1, 0), -2)
        self.assert_refused(("noGoal", 0, 1), -2)
        self.assert_refused(("noGoal", 2, 1), -2)

    def test_it_is_none_any_more(self):
        self.assert_refused(("noGoal", 0, 0), -2, start=START + [("noGoal", 0, 0)])

    def test_before_any_goal(self):
        self.assert_refused(("noGoal", 0, 0), -2, start=[], probes=[("field",), ("goal", 0, 0)])


class FarRefusals(RefusalTest):
    def test_not_on_the_map(self):
        for x, y in OFF_THE_MAP:
            self.assert_refused(("far", x, y), -2)

    def test_a_wall_is_nowhere(self):
        self.assert_refused(("far", 0, 1), -6)

    def test_a_goal_in_a_wall_is_nowhere(self):
        self.assert_refused(("far", 2, 0), -6)

    def test_cut_off_is_nowhere(self):
        self.assert_refused(("far", 2, 1), -6, start=START + [("set", 1, 1, 0)])

    def test_all_is_nowhere_without_goals(self):
        self.assert_refused(("far", 0, 0), -6, start=[MAP])

    def test_not_on_the_map_is_told_where_all_is_nowhere(self):
        self.assert_refused(("far", 3, 0), -2, start=[MAP])
        self.assertEqual(last(("far", 1, 1)), [-2])


class WayRefusals(RefusalTest):
    def test_not_on_the_map(self):
        for x, y in OFF_THE_MAP:
            self.assert_refused(("way", x, y), -2)

    def test_a_wall_is_nowhere_also_with_a_goal_in_it(self):
        self.assert_refused(("way", 0, 1), -6)
        self.assert_refused(("way", 2, 0), -6)

    def test_cut_off_is_nowhere(self):
        self.assert_refused(("way", 2, 1), -6, start=START + [("set", 1, 1, 0)])

    def test_all_is_nowhere_without_goals(self):
        self.assert_refused(("way", 0, 0), -6, start=[MAP])
        self.assert_refused(("way", 3, 0), -2, start=[MAP])


class NextRefusals(RefusalTest):
    def test_not_on_the_map(self):
        for x, y in OFF_THE_MAP:
            self.assert_refused(("next", x, y), -2)

    def test_nowhere_also_with_a_goal_in_a_wall(self):
        self.assert_refused(("next", 0, 1), -6)
        self.assert_refused(("next", 2, 0), -6)
        self.assert_refused(("next", 2, 1), -6, start=START + [("set", 1, 1, 0)])

    def test_all_is_nowhere_without_goals(self):
        self.assert_refused(("next", 0, 0), -6, start=[MAP])
        self.assert_refused(("next", 3, 0), -2, start=[MAP])

    def test_at_a_goal(self):
        self.assert_refused(("next", 0, 0), -7)
        self.assert_refused(("next", 1, 0), -7, start=START + [("goal", 1, 0)])


class PutRefusals(RefusalTest):
    # Twelve figures; a wall and a free place are left.
    FULL = [("map", 7, 2, [1] * 13 + [0]), ("goal", 0, 0)] + [("put", x, y) for y in range(2) for x in range(6)]
    FULL_PROBES = [("crowd",), ("field",), ("go", 1), ("put", 6, 0), ("crowd",), ("go", 60), ("crowd",)]

    def test_not_on_the_map(self):
        for x, y in OFF_THE_MAP:
            self.assert_refused(("put", x, y), -2)

    def test_a_wall(self):
        self.assert_refused(("put", 0, 1), -4)
        self.assert_refused(("put", 2, 0), -4)

    def test_somebody_stands_there(self):
        self.assert_refused(("put", 1, 0), -4)

    def test_there_are_twelve(self):
        self.assert_refused(("put", 6, 0), -5, start=self.FULL, probes=self.FULL_PROBES)

    def test_the_others_are_told_ahead_of_there_are_twelve(self):
        self.assert_refused(("put", 7, 0), -2, start=self.FULL, probes=self.FULL_PROBES)
        self.assert_refused(("put", 6, 1), -4, start=self.FULL, probes=self.FULL_PROBES)
        self.assert_refused(("put", 3, 1), -4, start=self.FULL, probes=self.FULL_PROBES)


class GoRefusals(RefusalTest):
    def test_above_sixty(self):
        for steps in (61, 62, 256, HIGHEST):
            self.assert_refused(("go", steps), -1)
            self.assert_refused(("go", steps), -1, start=[], probes=[("crowd",), ("put", 0, 0)])


class ChangedRefusals(RefusalTest):
    def test_above_ninety_nine(self):
        for cost in (100, 101, 256, HIGHEST):
            self.assert_refused(("changed", 1, 0, cost), -1)
            self.assert_refused(("changed", 2, 0, cost), -1)

    def test_not_on_the_map(self):
        for x, y in OFF_THE_MAP:
            for cost in (0, 1, 99):
                self.assert_refused(("changed", x, y, cost), -2)

    def test_above_ninety_nine_is_told_ahead_of_not_on_the_map(self):
        self.assert_refused(("changed", 3, 0, 100), -1)
        self.assert_refused(("changed", HIGHEST, HIGHEST, HIGHEST), -1)


if __name__ == "__main__":
    unittest.main()
