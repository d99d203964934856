"""The calls put and crowd, and set where somebody stands."""

import unittest

from helper import HIGHEST, ask, last

ROW = ("map", 4, 1, [1, 1, 1, 1])
TWO_ROWS = ("map", 7, 2, [1] * 14)
TWELVE = [("put", x, y) for y in range(2) for x in range(6)]


class PutTest(unittest.TestCase):
    def test_numbers_go_from_nought_on(self):
        self.assertEqual(ask(ROW, ("put", 2, 0), ("put", 0, 0), ("put", 3, 0))[1:], [[0], [1], [2]])

    def test_before_any_map(self):
        self.assertEqual(ask(("put", 0, 0), ("put", 0, 0), ("put", 1, 0), ("crowd",)), [[0], [-4], [-2], [1, 0, 0, 0]])

    def test_a_number_is_not_given_again_when_its_figure_is_gone(self):
        told = ask(ROW, ("goal", 0, 0), ("put", 0, 0), ("go", 1), ("put", 0, 0), ("put", 3, 0), ("go", 1), ("put", 0, 0),
                   ("crowd",))
        self.assertEqual(told[2:], [[0], [0, 1, 1, 0], [1], [2], [1, 1, 1, 1], [3], [2, 2, 2, 0, 3, 0, 0]])

    def test_a_number_is_not_given_again_on_another_map(self):
        told = ask(("put", 0, 0), ROW, ("put", 0, 0), ("put", 1, 0), ROW, ("put", 0, 0), ("map", 1, 1, [5]), ("put", 0, 0))
        self.assertEqual([told[i] for i in (0, 2, 3, 5, 7)], [[0], [1], [2], [3], [4]])

    def test_a_refused_one_takes_no_number(self):
        told = ask(("map", 3, 1, [1, 0, 1]), ("put", 0, 0), ("put", 0, 0), ("put", 1, 0), ("put", 3, 0), ("put", 2, 0))
        self.assertEqual(told[1:], [[0], [-4], [-4], [-2], [1]])

    def test_a_full_crowd_takes_no_number(self):
        told = ask(TWO_ROWS, *TWELVE, ("put", 6, 0), ("put", 6, 1), ("goal", 0, 0), ("go", 1), ("put", 6, 0))
        self.assertEqual(told[13:], [[-5], [-5], [14], [11, 1, 1, 0], [12]])

    def test_the_twelfth_and_the_thirteenth(self):
        told = ask(TWO_ROWS, *TWELVE, ("put", 6, 0), ("crowd",))
        self.assertEqual(told[1:13], [[number] for number in range(12)])
        self.assertEqual(told[13], [-5])
        self.assertEqual(told[14][0], 12)

    def test_those_gone_leave_room_for_others(self):
        told = ask(TWO_ROWS, *TWELVE, ("goal", 0, 0), ("goal", 3, 1), ("go", 1), ("put", 6, 0), ("put", 6, 1),
                   ("put", 0, 0))
        self.assertEqual(told[15:], [[10, 2, 1, 0, 1, 9], [12], [13], [-5]])

    def test_another_map_leaves_room_for_twelve(self):
        told = ask(TWO_ROWS, *TWELVE, TWO_ROWS, *TWELVE, ("put", 6, 0))
        self.assertEqual(told[14:26], [[number] for number in range(12, 24)])
        self.assertEqual(told[26], [-5])

    def test_at_a_goal(self):
        told = ask(ROW, ("goal", 1, 0), ("put", 1, 0), ("crowd",))
        self.assertEqual(told[2:], [[0], [1, 0, 1, 0]])

    def test_on_a_place_that_is_nowhere(self):
        told = ask(("map", 3, 1, [1, 0, 1]), ("put", 0, 0), ("goal", 0, 0), ("put", 2, 0), ("crowd",))
        self.assertEqual(told[1:], [[0], [1], [1], [2, 0, 0, 0, 1, 2, 0]])

    def test_not_in_a_wall(self):
        told = ask(("map", 2, 1, [1, 0]), ("put", 1, 0), ("goal", 1, 0), ("put", 1, 0), ("set", 1, 0, 1), ("put", 1, 0))
        self.assertEqual(told[1:], [[-4], [0], [-4], [2], [0]])

    def test_not_where_somebody_stands_but_where_one_has_gone_from(self):
        told = ask(ROW, ("goal", 0, 0), ("put", 3, 0), ("put", 3, 0), ("go", 1), ("put", 3, 0), ("put", 2, 0))
        self.assertEqual(told[2:], [[0], [-4], [1, 0], [1], [-4]])

    def test_changes_no_field(self):
        told = ask(ROW, ("goal", 0, 0), ("field",), ("put", 1, 0), ("field",), ("far", 3, 0))
        self.assertEqual(told[4], told[2])
        self.assertEqual(told[5], [3])

    def test_the_order_of_refusals(self):
        told = ask(("map", 7, 2, [1] * 13 + [0]), *TWELVE, ("put", 7, 0), ("put", 0, 2), ("put", HIGHEST, HIGHEST),
                   ("put", 0, 0), ("put", 6, 1), ("put", 6, 0))
        self.assertEqual(told[13:], [[-2], [-2], [-2], [-4], [-4], [-5]])


class CrowdTest(unittest.TestCase):
    def test_nobody(self):
        self.assertEqual(ask(("crowd",)), [[0]])
        self.assertEqual(last(ROW, ("goal", 0, 0), ("crowd",)), [0])

    def test_several_as_they_were_put(self):
        told = ask(("map", 3, 2, [1] * 6), ("put", 2, 1), ("put", 0, 1), ("put", 1, 0), ("crowd",))
        self.assertEqual(told[4], [3, 0, 2, 1, 1, 0, 1, 2, 1, 0])

    def test_twelve(self):
        told = last(TWO_ROWS, *TWELVE[::-1], ("crowd",))
        expected = [12]
        for number, call in enumerate(TWELVE[::-1]):
            expected.extend([number, call[1], call[2]])
        self.assertEqual(told, expected)

    def test_as_they_were_put_also_when_others_go_ahead(self):
        told = ask(ROW, ("goal", 0, 0), ("put", 3, 0), ("put", 2, 0), ("go", 1), ("crowd",))
        self.assertEqual(told[4:], [[2, 0], [2, 0, 2, 0, 1, 1, 0]])

    def test_after_some_are_gone(self):
        told = ask(ROW, ("goal", 0, 0), ("put", 3, 0), ("put", 1, 0), ("put", 2, 0), ("go", 1), ("crowd",), ("go", 1),
                   ("crowd",), ("put", 3, 0), ("crowd",), ("go", 60), ("crowd",))
        self.assertEqual(told[6], [2, 0, 2, 0, 2, 1, 0])
        self.assertEqual(told[8], [1, 0, 1, 0])
        self.assertEqual(told[10], [2, 0, 1, 0, 3, 3, 0])
        self.assertEqual(told[12], [0])

    def test_after_another_map_nobody_is_left_and_numbers_go_on(self):
        told = ask(ROW, ("put", 0, 0), ("put", 1, 0), ROW, ("crowd",), ("go", 1), ("put", 1, 0), ("crowd",))
        self.assertEqual(told[4:], [[0], [0, 0], [2], [1, 2, 1, 0]])

    def test_all_stay_when_a_map_is_refused(self):
        told = ask(ROW, ("put", 0, 0), ("put", 1, 0), ("map", 4, 1, [1, 1, 1]), ("crowd",), ("put", 2, 0))
        self.assertEqual(told[3:], [[-1], [2, 0, 0, 0, 1, 1, 0], [2]])

    def test_asking_changes_nothing(self):
        told = ask(ROW, ("goal", 0, 0), ("put", 0, 0), ("put", 2, 0), ("crowd",), ("field",), ("way", 2, 0), ("crowd",),
                   ("crowd",))
        self.assertEqual(told[4], [2, 0, 0, 0, 1, 2, 0])
        self.assertEqual(told[7:], [told[4], told[4]])


class SetWhereSomebodyStandsTest(unittest.TestCase):
    START = [("map", 3, 1, [1, 2, 3]), ("goal", 0, 0), ("put", 1, 0)]

    def test_a_wall_is_refused_and_all_is_as_it_was(self):
        told = ask(*self.START, ("set", 1, 0, 0), ("field",), ("crowd",))
        self.assertEqual(told[3:], [[-4], [1, 2, 4], [1, 0, 1, 0]])

    def test_another_cost_is_not_refused(self):
        told = ask(*self.START, ("set", 1, 0, 1), ("field",), ("set", 1, 0, 99), ("field",), ("crowd",))
        self.assertEqual(told[3:], [[3], [1, 2, 3], [3], [1, 2, 101], [1, 0, 1, 0]])

    def test_a_wall_elsewhere_is_not_refused(self):
        told = ask(*self.START, ("set", 0, 0, 0), ("set", 2, 0, 0), ("field",), ("crowd",))
        self.assertEqual(told[3:], [[0], [0], [0, 0, 0], [1, 0, 1, 0]])

    def test_refusals_told_ahead(self):
        told = ask(*self.START, ("set", 1, 0, 100), ("set", 1, 1, 0), ("set", 4, 0, 0))
        self.assertEqual(told[3:], [[-1], [-2], [-2]])

    def test_where_one_stands_now_not_where_it_was_put(self):
        told = ask(("map", 4, 1, [1] * 4), ("goal", 0, 0), ("put", 3, 0), ("go", 1), ("set", 2, 0, 0), ("set", 3, 0, 0))
        self.assertEqual(told[4:], [[-4], [3]])

    def test_where_one_is_gone(self):
        told = ask(*self.START, ("set", 0, 0, 0), ("set", 0, 0, 1), ("go", 1), ("set", 0, 0, 0), ("set", 1, 0, 0))
        self.assertEqual(told[3:], [[0], [3], [0, 1, 1, 0], [0], [0]])

    def test_where_one_stood_on_another_map(self):
        told = ask(*self.START, ("map", 3, 1, [1, 1, 1]), ("goal", 0, 0), ("set", 1, 0, 0))
        self.assertEqual(told[3:], [[3, 3], [3], [1]])

    def test_where_one_stood_when_a_map_was_refused(self):
        told = ask(*self.START, ("map", 3, 1, [1, 1]), ("set", 1, 0, 0))
        self.assertEqual(told[3:], [[-1], [-4]])

    def test_at_a_goal_and_on_a_place_that_is_nowhere(self):
        told = ask(("map", 3, 1, [1, 0, 1]), ("goal", 0, 0), ("put", 0, 0), ("put", 2, 0), ("set", 0, 0, 0),
                   ("set", 2, 0, 0), ("set", 2, 0, 7), ("set", 1, 0, 1))
        self.assertEqual(told[4:], [[-4], [-4], [1], [3]])


if __name__ == "__main__":
    unittest.main()
