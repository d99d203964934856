"""The call changed: which places were otherwise far, and that nothing is changed by it."""

import unittest

from helper import Dice, HIGHEST, ask, last, thrown_costs, thrown_goals, triples

ROW = ("map", 3, 1, [1, 1, 1])
# The right column is cut off from the left one.
CUT_OFF = ("map", 3, 2, [1, 0, 1,
                         5, 0, 1])


class ChangedTest(unittest.TestCase):
    def test_a_cost_that_is_as_it_was(self):
        told = ask(CUT_OFF, ("goal", 0, 0), ("changed", 0, 0, 1), ("changed", 0, 1, 5), ("changed", 1, 0, 0),
                   ("changed", 2, 0, 1))
        self.assertEqual(told[2:], [[0]] * 4)

    def test_slower_ground(self):
        told = ask(ROW, ("goal", 0, 0), ("changed", 1, 0, 5), ("changed", 0, 0, 4), ("changed", 2, 0, 99))
        self.assertEqual(told[2], [1, 2, 0, 7])
        self.assertEqual(told[3], [2, 1, 0, 5, 2, 0, 6])
        self.assertEqual(told[4], [0])

    def test_quicker_ground(self):
        told = ask(("map", 3, 1, [9, 8, 7]), ("goal", 0, 0), ("changed", 1, 0, 5), ("changed", 0, 0, 1))
        self.assertEqual(told[2:], [[1, 2, 0, 15], [2, 1, 0, 2, 2, 0, 10]])

    def test_places_stand_row_by_row_with_the_column_first(self):
        told = last(("map", 2, 3, [1, 1, 1, 1, 1, 1]), ("goal", 1, 0), ("changed", 1, 0, 3))
        self.assertEqual(triples(told[1:]), [(0, 0, 4), (0, 1, 5), (1, 1, 4), (0, 2, 6), (1, 2, 5)])
        self.assertEqual(told[0], 5)

    def test_a_wall_that_would_come_at_a_goal(self):
        told = ask(ROW, ("goal", 0, 0), ("changed", 0, 0, 0))
        self.assertEqual(told[2], [3, 0, 0, 0, 1, 0, 0, 2, 0, 0])

    def test_a_wall_that_would_come_at_one_of_two_goals(self):
        told = ask(ROW, ("goal", 0, 0), ("goal", 2, 0), ("changed", 0, 0, 0))
        self.assertEqual(told[3], [1, 0, 0, 0])

    def test_a_wall_that_would_come_beside_a_goal(self):
        told = ask(ROW, ("goal", 0, 0), ("changed", 1, 0, 0))
        self.assertEqual(told[2], [2, 1, 0, 0, 2, 0, 0])

    def test_a_wall_that_would_make_a_detour(self):
        told = ask(("map", 3, 2, [1, 1, 1, 2, 2, 2]), ("goal", 0, 0), ("changed", 1, 0, 0))
        self.assertEqual(triples(told[2][1:]), [(1, 0, 0), (2, 0, 8), (1, 1, 4), (2, 1, 6)])

    def test_a_wall_that_would_go_at_a_goal(self):
        told = ask(CUT_OFF, ("goal", 1, 0), ("changed", 1, 0, 4), ("changed", 1, 1, 4))
        self.assertEqual(triples(told[2][1:]), [(0, 0, 5), (1, 0, 1), (2, 0, 5), (0, 1, 6), (2, 1, 6)])
        self.assertEqual(told[3], [0])

    def test_a_wall_that_would_go_beside_a_goal(self):
        told = ask(CUT_OFF, ("goal", 0, 0), ("changed", 1, 0, 4))
        self.assertEqual(told[2], [3, 1, 0, 2, 2, 0, 6, 2, 1, 7])

    def test_a_wall_that_would_go_and_make_a_way_cheaper(self):
        told = ask(("map", 3, 2, [1, 0, 1, 9, 9, 9]), ("goal", 0, 0), ("changed", 1, 0, 1))
        self.assertEqual(triples(told[2][1:]), [(1, 0, 2), (2, 0, 3), (1, 1, 3), (2, 1, 4)])

    def test_a_place_that_would_be_nowhere_and_one_that_would_be_so_no_more(self):
        told = ask(ROW, ("goal", 0, 0), ("changed", 2, 0, 0), ("set", 2, 0, 0), ("changed", 2, 0, 9))
        self.assertEqual(told[2:], [[1, 2, 0, 0], [2], [1, 2, 0, 3]])

    def test_where_all_is_nowhere(self):
        told = ask(ROW, ("changed", 1, 0, 0), ("changed", 1, 0, 7), ("set", 1, 0, 0), ("changed", 1, 0, 7))
        self.assertEqual(told[1:], [[0], [0], [0], [0]])

    def test_ninety_nine_and_a_hundred(self):
        told = ask(ROW, ("goal", 0, 0), ("changed", 1, 0, 99), ("changed", 1, 0, 100), ("changed", 1, 0, HIGHEST))
        self.assertEqual(told[2:], [[1, 2, 0, 101], [-1], [-1]])

    def test_before_any_map(self):
        told = ask(("changed", 0, 0, 0), ("goal", 0, 0), ("changed", 0, 0, 0), ("changed", 0, 0, 5), ("changed", 1, 0, 0))
        self.assertEqual(told, [[0], [1], [1, 0, 0, 0], [0], [-2]])

    def test_all_places_of_the_largest_map(self):
        told = ask(("map", 12, 12, [1] * 144), ("goal", 0, 0), ("changed", 0, 0, 0))
        self.assertEqual(told[2][0], 144)
        self.assertEqual(triples(told[2][1:]), [(x, y, 0) for y in range(12) for x in range(12)])


class NothingChangedTest(unittest.TestCase):
    START = [("map", 3, 2, [1, 2, 3, 4, 5, 0]), ("goal", 0, 0), ("put", 1, 0), ("put", 0, 1)]
    PROBES = [("field",), ("crowd",), ("way", 2, 0), ("go", 1), ("crowd",), ("put", 1, 0), ("set", 2, 1, 1), ("field",)]

    def test_on_each_place_for_several_costs(self):
        expected = ask(*self.START, *self.PROBES)
        for y in range(2):
            for x in range(3):
                for cost in (0, 1, 2, 50, 99):
                    with self.subTest(x=x, y=y, cost=cost):
                        told = ask(*self.START, ("changed", x, y, cost), *self.PROBES)
                        self.assertGreaterEqual(told[4][0], 0)
                        self.assertEqual(told[:4] + told[5:], expected)

    def test_a_wall_where_somebody_stands_is_told_too(self):
        told = ask(*self.START, ("changed", 1, 0, 0), ("set", 1, 0, 0), ("crowd",))
        self.assertEqual(triples(told[4][1:]), [(1, 0, 0), (2, 0, 0), (1, 1, 6)])
        self.assertEqual(told[5:], [[-4], [2, 0, 1, 0, 1, 0, 1]])


class AnyMapTest(unittest.TestCase):
    def test_is_what_set_makes_of_the_field(self):
        nowhere_then = 0
        for seed in range(400):
            dice = Dice(seed + 1)
            wide, high = 1 + dice.throw(6), 1 + dice.throw(6)
            costs = thrown_costs(dice, wide, high, dice.choose([[1], [0, 1, 1], [0, 1, 2, 50, 99]]))
            goals = thrown_goals(dice, wide, high)
            x, y, cost = dice.throw(wide), dice.throw(high), dice.choose([0, 0, 1, 2, 50, 99])
            told = ask(("map", wide, high, costs), *[("goal", a, b) for a, b in goals], ("field",), ("changed", x, y, cost),
                       ("field",), ("set", x, y, cost), ("field",))
            before, changed, still, after = told[-5], told[-4], told[-3], told[-1]
            expected = [(i % wide, i // wide, after[i]) for i in range(wide * high) if before[i] != after[i]]
            with self.subTest(wide=wide, high=high, costs=costs, goals=goals, x=x, y=y, cost=cost):
                self.assertEqual(still, before)
                self.assertEqual(changed[0], len(expected))
                self.assertEqual(triples(changed[1:]), expected)
            nowhere_then += len([place for place in expected if place[2] == 0])
        self.assertGreater(nowhere_then, 100)


if __name__ == "__main__":
    unittest.main()
