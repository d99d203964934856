"""The edges that the document names."""

import unittest

from helper import HIGHEST, ask


class SizeTest(unittest.TestCase):
    def test_one_and_twelve_wide_and_high(self):
        for wide, high in ((1, 1), (1, 12), (12, 1), (12, 12)):
            with self.subTest(wide=wide, high=high):
                places = wide * high
                told = ask(("map", wide, high, [1] * places), ("goal", 0, 0), ("far", wide - 1, high - 1), ("field",),
                           ("far", wide, 0), ("far", 0, high))
                self.assertEqual(told[:3], [[places, places], [places], [wide + high - 2]])
                self.assertEqual(told[3], [x + y + 1 for y in range(high) for x in range(wide)])
                self.assertEqual(told[4:], [[-2], [-2]])

    def test_all_sizes_from_nought_to_thirteen(self):
        for wide in range(14):
            for high in range(14):
                places = wide * high
                if places > 160:
                    continue
                with self.subTest(wide=wide, high=high):
                    good = 1 <= wide <= 12 and 1 <= high <= 12
                    told = ask(("map", wide, high, [1] * places), ("field",))
                    self.assertEqual(told[0], [places, places] if good else [-1])
                    self.assertEqual(told[1], [0] * places if good else [0])

    def test_the_largest_answer_far_off(self):
        told = ask(("map", 12, 1, [99] * 12), ("goal", 0, 0), ("field",))
        self.assertEqual(told[2], [99 * x + 1 for x in range(12)])


class CostTest(unittest.TestCase):
    def test_map_costs_nought_one_and_ninety_nine(self):
        told = ask(("map", 4, 1, [1, 99, 1, 0]), ("goal", 0, 0), ("field",))
        self.assertEqual(told, [[4, 3], [3], [1, 2, 101, 0]])

    def test_map_takes_each_cost_up_to_ninety_nine(self):
        for cost in range(102):
            with self.subTest(cost=cost):
                expected = [-1] if cost > 99 else [2, 1 if cost == 0 else 2]
                self.assertEqual(ask(("map", 2, 1, [1, cost])), [expected])

    def test_set_takes_each_cost_up_to_ninety_nine(self):
        for cost in range(102):
            with self.subTest(cost=cost):
                told = ask(("map", 2, 1, [1, 1]), ("goal", 1, 0), ("set", 1, 0, cost), ("far", 0, 0))
                if cost == 0:
                    self.assertEqual(told[2:], [[0], [-6]])
                elif cost <= 99:
                    self.assertEqual(told[2:], [[2], [cost]])
                else:
                    self.assertEqual(told[2:], [[-1], [1]])

    def test_set_to_what_it_is(self):
        told = ask(("map", 3, 1, [1, 0, 3]), ("goal", 0, 0), ("set", 1, 0, 0), ("set", 2, 0, 3), ("field",))
        self.assertEqual(told[2:], [[1], [1], [1, 0, 0]])

    def test_counts_of_costs_from_none_to_a_hundred_and_sixty(self):
        for count in range(161):
            with self.subTest(count=count):
                told = ask(("map", 12, 12, [1] * count), ("goal", 0, 0))
                self.assertEqual(told, [[144, 144], [144]] if count == 144 else [[-1], [1]])


class GoalCountTest(unittest.TestCase):
    def test_the_sixth_and_the_seventh(self):
        told = ask(("map", 12, 1, [1] * 12), *[("goal", x, 0) for x in range(7)], ("field",))
        self.assertEqual(told[1:8], [[12]] * 6 + [[-5]])
        self.assertEqual(told[8], [1, 1, 1, 1, 1, 1, 2, 3, 4, 5, 6, 7])

    def test_the_sixth_and_the_seventh_with_some_in_walls(self):
        told = ask(("map", 12, 1, [0] * 5 + [1] * 7), *[("goal", x, 0) for x in range(7)], ("field",))
        self.assertEqual(told[1:8], [[0]] * 5 + [[7], [-5]])
        self.assertEqual(told[8], [0, 0, 0, 0, 0, 1, 2, 3, 4, 5, 6, 7])

    def test_six_in_walls_and_none_near(self):
        told = ask(("map", 12, 1, [0] * 6 + [1] * 6), *[("goal", x, 0) for x in range(7)], ("field",))
        self.assertEqual(told[1:], [[0]] * 6 + [[-5], [0] * 12])


class HighNumberTest(unittest.TestCase):
    def test_places_far_off_the_map(self):
        for high in (2 ** 31, 2 ** 32 - 12, HIGHEST):
            told = ask(("map", 12, 12, [1] * 144), ("goal", 0, 0), ("far", high, 0), ("far", 0, high),
                       ("goal", high, high), ("noGoal", high, 0), ("set", 0, high, 1), ("set", 0, 0, high))
            self.assertEqual(told[2:], [[-2]] * 5 + [[-1]])

    def test_a_place_beyond_its_row_is_not_one_of_the_next_row(self):
        told = ask(("map", 3, 3, [1] * 9), ("goal", 0, 1), ("far", 3, 0), ("noGoal", 3, 0), ("goal", 4, 0),
                   ("set", 5, 0, 0), ("field",))
        self.assertEqual(told[2:], [[-2], [-2], [-2], [-2], [2, 3, 4, 1, 2, 3, 2, 3, 4]])


if __name__ == "__main__":
    unittest.main()
