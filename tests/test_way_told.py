"""The calls way and next: the way told is a cheapest one, and each of its steps is the first that is one."""

import unittest

from helper import Dice, ask, by_rounds, last, neighbours, pairs, thrown_costs, thrown_goals, winding_map, winding_way

# The upper row is slow; the middle of the second one is walled.
ORDINARY = ("map", 4, 3, [1, 9, 9, 1,
                          1, 0, 0, 1,
                          1, 2, 3, 1])
OPEN = ("map", 3, 3, [1] * 9)
# A place less far than (0, 0) is at its right, but it is dear to step onto that one.
DEAR_SHORTCUT = ("map", 3, 2, [1, 50, 1,
                               1, 1, 1])


def told_ways(wide, high, costs, goals, places):
    """What way and next answer for each of the places, asked in as many lines as that needs."""
    start = [("map", wide, high, costs)] + [("goal", x, y) for x, y in goals]
    ways, nexts = [], []
    room = (30 - len(start)) // 2
    for at in range(0, len(places), room):
        part = places[at:at + room]
        told = ask(*start, *[("way", x, y) for x, y in part], *[("next", x, y) for x, y in part])[len(start):]
        ways.extend(told[:len(part)])
        nexts.extend(told[len(part):])
    return list(zip(places, ways, nexts))


class WayTest(unittest.TestCase):
    def test_tells_how_far_how_many_places_and_they(self):
        told = last(ORDINARY, ("goal", 3, 0), ("way", 0, 0))
        self.assertEqual(told, [10, 8, 0, 0, 0, 1, 0, 2, 1, 2, 2, 2, 3, 2, 3, 1, 3, 0])

    def test_column_stands_ahead_of_row(self):
        told = ask(("map", 2, 3, [1, 0, 1, 0, 1, 1]), ("goal", 1, 2), ("way", 0, 0), ("next", 0, 0), ("next", 0, 2))
        self.assertEqual(told[2:], [[3, 4, 0, 0, 0, 1, 0, 2, 1, 2], [0, 1], [1, 2]])

    def test_beside_a_goal(self):
        told = ask(ORDINARY, ("goal", 3, 0), ("way", 2, 0), ("way", 3, 1))
        self.assertEqual(told[2:], [[1, 2, 2, 0, 3, 0], [1, 2, 3, 1, 3, 0]])

    def test_from_a_goal_is_that_place_alone(self):
        told = ask(OPEN, ("goal", 1, 1), ("goal", 2, 1), ("way", 1, 1), ("way", 2, 1))
        self.assertEqual(told[3:], [[0, 1, 1, 1], [0, 1, 2, 1]])

    def test_on_a_map_of_one_place(self):
        self.assertEqual(ask(("goal", 0, 0), ("way", 0, 0), ("next", 0, 0)), [[1], [0, 1, 0, 0], [-7]])

    def test_ends_at_the_goal_it_comes_to(self):
        told = ask(("map", 5, 1, [1] * 5), ("goal", 0, 0), ("goal", 2, 0), ("way", 4, 0), ("noGoal", 2, 0),
                   ("way", 4, 0))
        self.assertEqual(told[3], [2, 3, 4, 0, 3, 0, 2, 0])
        self.assertEqual(told[5], [4, 5, 4, 0, 3, 0, 2, 0, 1, 0, 0, 0])

    def test_stepping_onto_places_counts_not_stepping_off(self):
        told = ask(("map", 3, 1, [7, 5, 99]), ("goal", 0, 0), ("way", 2, 0))
        self.assertEqual(told[2], [12, 3, 2, 0, 1, 0, 0, 0])

    def test_follows_ground_and_goals_as_they_change(self):
        told = ask(DEAR_SHORTCUT, ("goal", 2, 0), ("way", 0, 0), ("set", 1, 0, 1), ("way", 0, 0), ("set", 1, 0, 0),
                   ("way", 0, 0), ("set", 1, 1, 0), ("way", 0, 0), ("goal", 0, 1), ("way", 0, 0))
        self.assertEqual(told[2], [4, 5, 0, 0, 0, 1, 1, 1, 2, 1, 2, 0])
        self.assertEqual(told[4], [2, 3, 0, 0, 1, 0, 2, 0])
        self.assertEqual(told[6], told[2])
        self.assertEqual(told[8], [-6])
        self.assertEqual(told[10], [1, 2, 0, 0, 0, 1])

    def test_nobody_is_in_the_way(self):
        told = ask(("map", 3, 1, [1, 1, 1]), ("goal", 0, 0), ("put", 1, 0), ("put", 0, 0), ("way", 2, 0), ("next", 2, 0))
        self.assertEqual(told[4:], [[2, 3, 2, 0, 1, 0, 0, 0], [1, 0]])

    def test_the_longest_one(self):
        told = ask(winding_map(), ("goal", 0, 0), ("way", 0, 11), ("way", 11, 11))
        places = winding_way()
        self.assertEqual(told[2][:2], [99 * 77, 78])
        self.assertEqual(pairs(told[2][2:]), places)
        self.assertEqual(told[3], [-6])


class NextTest(unittest.TestCase):
    def test_of_several_the_first_of_right_below_left_above(self):
        around = [(2, 1), (1, 2), (0, 1), (1, 0)]
        for wanted in range(1, 16):
            goals = [around[i] for i in range(4) if wanted >> i & 1]
            with self.subTest(goals=goals):
                told = ask(OPEN, *[("goal", x, y) for x, y in goals], ("next", 1, 1), ("way", 1, 1))
                self.assertEqual(told[-2], list(goals[0]))
                self.assertEqual(told[-1], [1, 2, 1, 1, *goals[0]])

    def test_a_less_far_place_that_is_too_dear_is_not_the_next(self):
        told = ask(DEAR_SHORTCUT, ("goal", 2, 0), ("far", 0, 0), ("far", 1, 0), ("next", 0, 0))
        self.assertEqual(told[2:], [[4], [1], [0, 1]])

    def test_the_dear_place_is_the_next_where_it_is_just_as_cheap(self):
        told = ask(("map", 3, 2, [1, 3, 1, 1, 1, 1]), ("goal", 2, 0), ("far", 0, 0), ("next", 0, 0), ("set", 1, 0, 4),
                   ("next", 0, 0))
        self.assertEqual(told[2:], [[4], [1, 0], [6], [0, 1]])

    def test_a_place_just_as_far_off_is_not_the_next(self):
        told = ask(("map", 3, 2, [1, 1, 1, 1, 1, 1]), ("goal", 0, 1), ("goal", 2, 1), ("next", 1, 0), ("next", 0, 0))
        self.assertEqual(told[3:], [[2, 0], [0, 1]])

    def test_at_a_goal_is_refused(self):
        told = ask(OPEN, ("goal", 1, 1), ("goal", 2, 1), ("next", 1, 1), ("next", 2, 1), ("noGoal", 1, 1),
                   ("next", 1, 1))
        self.assertEqual(told[3:], [[-7], [-7], [9], [2, 1]])


class AnyMapTest(unittest.TestCase):
    def assert_way(self, wide, high, costs, goals, far, place, way):
        """That the way told is a cheapest one to a goal, always over the first place that leads on so."""
        cost = {(i % wide, i // wide): costs[i] for i in range(wide * high)}
        self.assertEqual(way[0], far[place])
        places = pairs(way[2:])
        self.assertEqual(way[1], len(places))
        self.assertEqual(places[0], place)
        self.assertEqual([spot for spot in places if spot in goals], [places[-1]])
        self.assertEqual(sum(cost[spot] for spot in places[1:]), far[place])
        for here, there in zip(places, places[1:]):
            good = [spot for spot in neighbours(wide, high, here) if spot in far and far[here] - far[spot] == cost[spot]]
            self.assertEqual(there, good[0])
            self.assertLess(far[there], far[here])

    def test_from_each_place(self):
        sizes = [(wide, high) for wide in range(1, 6) for high in range(1, 6)] + [(12, 1), (1, 12), (7, 9), (12, 12)]
        several = 0
        for wide, high in sizes:
            for kind, ground in enumerate(([1], [0, 1, 1], [1, 2, 3], [0, 1, 1, 50, 99], list(range(100)))):
                dice = Dice(wide * 1013 + high * 107 + kind)
                costs = thrown_costs(dice, wide, high, ground)
                goals = thrown_goals(dice, wide, high)
                far = by_rounds(wide, high, costs, goals)
                places = [(x, y) for y in range(high) for x in range(wide)]
                for place, way, following in told_ways(wide, high, costs, goals, places):
                    with self.subTest(wide=wide, high=high, costs=costs, goals=goals, place=place):
                        if place not in far:
                            self.assertEqual((way, following), ([-6], [-6]))
                            continue
                        self.assert_way(wide, high, costs, goals, far, place, way)
                        self.assertEqual(following, way[4:6] if far[place] > 0 else [-7])
                        several += way[1] > 2
        self.assertGreater(several, 300)


if __name__ == "__main__":
    unittest.main()
