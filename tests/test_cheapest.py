"""How far is told is what the cheapest way costs: against ways that are reckoned by other plain means."""

import unittest

from helper import Dice, as_field, ask, by_all_ways, by_rounds, neighbours, thrown_costs, thrown_goals, winding_map


def told_field(wide, high, costs, goals):
    told = ask(("map", wide, high, costs), *[("goal", x, y) for x, y in goals], ("field",))
    return told[-1]


def fewest_places(wide, high, costs, goals, start):
    """The least cost among the ways of as few places as can be, by going all such ways at once."""
    cost = {(i % wide, i // wide): costs[i] for i in range(wide * high)}
    front = {start: 0}
    been = {start}
    while front:
        ends = [front[place] for place in front if place in goals]
        if ends:
            return min(ends)
        beyond = {}
        for place in front:
            for other in neighbours(wide, high, place):
                if cost[other] > 0 and other not in been:
                    paid = front[place] + cost[other]
                    beyond[other] = min(paid, beyond.get(other, paid))
        been.update(beyond)
        front = beyond
    return None


SIZES = [(wide, high) for wide in range(1, 13) for high in range(1, 13)]
GROUNDS = (
    [1],
    [0, 1, 1, 1],
    [1, 1, 1, 99],
    [0, 1, 2, 3, 50, 99],
    list(range(100)),
)


class CheapestTest(unittest.TestCase):
    def test_the_way_of_fewer_places_may_be_the_dearer_one(self):
        costs = [1, 1, 1, 1,
                 1, 99, 99, 1,
                 1, 1, 1, 1]
        told = ask(("map", 4, 3, costs), ("goal", 3, 1), ("far", 0, 1), ("field",))
        self.assertEqual(told[2], [5])
        self.assertEqual(fewest_places(4, 3, costs, [(3, 1)], (0, 1)), 199)
        self.assertEqual(told[3], [5, 4, 3, 2, 6, 5, 2, 1, 5, 4, 3, 2])

    def test_a_long_way_round_over_a_map_of_the_largest_size(self):
        """A winding way through walls, which comes by 12 places in each second row."""
        told = ask(winding_map(), ("goal", 0, 0), ("far", 0, 11), ("far", 11, 10))
        steps = 6 * 11 + 11
        self.assertEqual(told[0], [144, 78])
        self.assertEqual(told[1], [78])
        self.assertEqual(told[2], [99 * steps])

    def test_all_sizes_by_rounds(self):
        dearer = 0
        for wide, high in SIZES:
            for kind, ground in enumerate(GROUNDS):
                dice = Dice(wide * 10007 + high * 101 + kind)
                costs = thrown_costs(dice, wide, high, ground)
                goals = thrown_goals(dice, wide, high)
                far = by_rounds(wide, high, costs, goals)
                with self.subTest(wide=wide, high=high, costs=costs, goals=goals):
                    self.assertEqual(told_field(wide, high, costs, goals), as_field(wide, high, far))
                open_goals = [goal for goal in goals if goal in far]
                for place in far:
                    if fewest_places(wide, high, costs, open_goals, place) > far[place]:
                        dearer += 1
        self.assertGreater(dearer, 1000)

    def test_all_ways_on_small_maps(self):
        sizes = [(wide, high) for wide in range(1, 4) for high in range(1, 4)] + [(4, 3), (3, 4), (12, 1), (1, 12)]
        for wide, high in sizes:
            for seed in range(15):
                dice = Dice(wide * 1009 + high * 103 + seed)
                costs = thrown_costs(dice, wide, high, [0, 1, 2, 9, 99])
                goals = thrown_goals(dice, wide, high)
                with self.subTest(wide=wide, high=high, costs=costs, goals=goals):
                    far = by_all_ways(wide, high, costs, goals)
                    self.assertEqual(told_field(wide, high, costs, goals), as_field(wide, high, far))


if __name__ == "__main__":
    unittest.main()
