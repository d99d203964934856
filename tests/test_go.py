"""The call go: who has its turn when, where each one goes, and who is gone at which step."""

import unittest

from helper import (Dice, HIGHEST, ask, by_rounds, last, neighbours, pairs, thrown_costs, thrown_goals, triples,
                    winding_map, winding_way)

ROW = ("map", 4, 1, [1, 1, 1, 1])
# A place less far than (0, 0) is at its right, but it is dear to step onto that one.
DEAR_SHORTCUT = ("map", 3, 2, [1, 50, 1,
                               1, 1, 1])


class StepsTest(unittest.TestCase):
    def test_one_goes_to_a_goal_and_is_gone(self):
        start = [ROW, ("goal", 0, 0), ("put", 3, 0)]
        self.assertEqual(last(*start, ("go", 1)), [1, 0])
        self.assertEqual(last(*start, ("go", 2)), [1, 0])
        self.assertEqual(last(*start, ("go", 3)), [0, 1, 3, 0])
        self.assertEqual(last(*start, ("go", 4)), [0, 1, 3, 0])

    def test_steps_are_counted_from_one_in_each_go(self):
        told = ask(ROW, ("goal", 0, 0), ("put", 3, 0), ("go", 2), ("crowd",), ("go", 5), ("go", 1))
        self.assertEqual(told[3:], [[1, 0], [1, 0, 1, 0], [0, 1, 1, 0], [0, 0]])

    def test_no_steps(self):
        told = ask(ROW, ("goal", 0, 0), ("put", 0, 0), ("put", 2, 0), ("go", 0), ("crowd",))
        self.assertEqual(told[4:], [[2, 0], [2, 0, 0, 0, 1, 2, 0]])

    def test_sixty_and_sixty_one(self):
        told = ask(ROW, ("goal", 0, 0), ("put", 3, 0), ("go", 61), ("go", 62), ("go", HIGHEST), ("crowd",), ("go", 60),
                   ("go", 61))
        self.assertEqual(told[3:], [[-1], [-1], [-1], [1, 0, 3, 0], [0, 1, 3, 0], [-1]])

    def test_sixty_steps_are_gone_each(self):
        places = winding_way()
        told = ask(winding_map(), ("goal", 0, 0), ("put", 0, 11), ("go", 60), ("crowd",), ("go", 60))
        self.assertEqual(told[3], [1, 0])
        self.assertEqual(told[4], [1, 0, *places[60]])
        self.assertEqual(told[5], [0, 1, 17, 0])

    def test_the_sixtieth_step_may_be_the_last(self):
        places = winding_way()
        told = ask(winding_map(), ("goal", 0, 0), ("put", *places[17]), ("put", *places[16]), ("go", 60))
        self.assertEqual(told[4], [1, 1, 60, 0])

    def test_nobody_there(self):
        self.assertEqual(ask(("go", 0), ("go", 60), ("go", 61)), [[0, 0], [0, 0], [-1]])
        self.assertEqual(ask(ROW, ("goal", 0, 0), ("go", 60))[2], [0, 0])

    def test_without_goals_all_stay(self):
        told = ask(ROW, ("put", 3, 0), ("put", 1, 0), ("go", 60), ("crowd",))
        self.assertEqual(told[3:], [[2, 0], [2, 0, 3, 0, 1, 1, 0]])

    def test_changes_no_field(self):
        told = ask(ROW, ("goal", 0, 0), ("field",), ("put", 3, 0), ("go", 1), ("field",), ("go", 9), ("field",))
        self.assertEqual([told[5], told[7]], [told[2], told[2]])


class TurnTest(unittest.TestCase):
    def test_the_least_far_comes_first_so_that_another_one_goes_where_it_left(self):
        told = ask(ROW, ("goal", 0, 0), ("put", 3, 0), ("put", 2, 0), ("put", 1, 0), ("go", 1), ("crowd",))
        self.assertEqual(told[5:], [[2, 1, 1, 2], [2, 0, 2, 0, 1, 1, 0]])

    def test_least_far_is_what_it_costs_not_how_many_places(self):
        """(0, 0) is fewer places off the goal than (0, 1), but farther; what is at its right is taken and stays so."""
        told = ask(DEAR_SHORTCUT, ("goal", 2, 0), ("put", 0, 0), ("put", 0, 1), ("put", 1, 0), ("put", 2, 0), ("go", 1),
                   ("crowd",))
        self.assertEqual(told[6], [3, 1, 1, 3])
        self.assertEqual(triples(told[7][1:]), [(0, 0, 1), (1, 1, 1), (2, 1, 0)])

    def test_of_as_far_ones_the_lower_number_comes_first(self):
        for first, second in ((0, 2), (2, 0)):
            told = ask(("map", 3, 1, [1, 1, 1]), ("goal", 1, 0), ("put", first, 0), ("put", second, 0), ("go", 1),
                       ("crowd",), ("go", 1))
            self.assertEqual(told[4:], [[1, 1, 1, 0], [1, 1, second, 0], [0, 1, 1, 1]])

    def test_the_lower_number_also_after_others_were_gone(self):
        told = ask(("map", 3, 1, [1, 1, 1]), ("goal", 1, 0), ("put", 1, 0), ("go", 1), ("put", 2, 0), ("put", 0, 0),
                   ("go", 1))
        self.assertEqual(told[6], [1, 1, 1, 1])

    def test_the_order_is_another_one_in_each_step(self):
        """Figure 0 comes last at first; a dear shortcut brings it as near as figure 1, and then it comes first."""
        costs = [1, 60, 1, 1,
                 1, 0, 1, 0,
                 1, 1, 1, 0]
        start = [("map", 4, 3, costs), ("goal", 3, 0), ("put", 0, 0), ("put", 2, 2)]
        told = ask(*start, ("far", 0, 0), ("far", 2, 2), ("far", 1, 0), ("far", 2, 1), ("go", 2), ("crowd",))
        self.assertEqual(told[4:], [[7], [3], [2], [2], [2, 0], [2, 0, 2, 0, 1, 2, 1]])
        told = ask(*start, ("go", 1), ("crowd",), ("go", 1), ("crowd",))
        self.assertEqual(told[4:], [[2, 0], [2, 0, 1, 0, 1, 2, 1], [2, 0], [2, 0, 2, 0, 1, 2, 1]])

    def test_a_queue_moves_up_whatever_its_numbers(self):
        for columns in ([1, 2, 3, 4, 5], [5, 4, 3, 2, 1], [3, 1, 5, 2, 4]):
            with self.subTest(columns=columns):
                told = ask(("map", 6, 1, [1] * 6), ("goal", 0, 0), *[("put", x, 0) for x in columns], ("go", 6))
                expected = [(step, columns.index(step)) for step in range(1, 6)]
                self.assertEqual(told[7][:2], [0, 5])
                self.assertEqual(pairs(told[7][2:]), expected)

    def test_twelve_one_behind_another_with_one_at_the_goal(self):
        told = ask(("map", 12, 1, [1] * 12), ("goal", 0, 0), *[("put", 11 - x, 0) for x in range(12)], ("go", 1),
                   ("crowd",), ("go", 60))
        self.assertEqual(told[14], [11, 1, 1, 11])
        self.assertEqual(triples(told[15][1:]), [(x, 11 - x, 0) for x in range(11)])
        self.assertEqual(pairs(told[16][2:]), [(step, 11 - step) for step in range(1, 12)])

    def test_those_nowhere_stay(self):
        told = ask(("map", 5, 1, [1, 1, 0, 1, 1]), ("goal", 0, 0), ("put", 4, 0), ("put", 1, 0), ("put", 3, 0),
                   ("go", 60), ("crowd",))
        self.assertEqual(told[5:], [[2, 1, 1, 1], [2, 0, 4, 0, 2, 3, 0]])

    def test_those_nowhere_stay_beside_a_goal_in_a_wall(self):
        told = ask(("map", 2, 1, [1, 0]), ("goal", 1, 0), ("put", 0, 0), ("go", 60), ("crowd",))
        self.assertEqual(told[3:], [[1, 0], [1, 0, 0, 0]])


class WhereTest(unittest.TestCase):
    def test_the_least_far_place_which_is_not_the_next_one(self):
        told = ask(DEAR_SHORTCUT, ("goal", 2, 0), ("next", 0, 0), ("put", 0, 0), ("go", 1), ("crowd",), ("go", 1))
        self.assertEqual(told[2:], [[0, 1], [0], [1, 0], [1, 0, 1, 0], [0, 1, 1, 0]])

    def test_the_least_far_place_which_is_not_the_first_that_is_less_far(self):
        told = ask(("map", 2, 3, [1, 1, 50, 1, 1, 1]), ("goal", 0, 2), ("next", 0, 0), ("put", 0, 0), ("go", 1),
                   ("crowd",))
        self.assertEqual(told[2:], [[1, 0], [0], [1, 0], [1, 0, 0, 1]])

    def test_another_less_far_place_if_the_least_far_is_taken(self):
        """Who stands on (1, 0) can't go on, since the goal is taken; so the one behind goes below."""
        told = ask(DEAR_SHORTCUT, ("goal", 2, 0), ("put", 0, 0), ("put", 1, 0), ("put", 2, 0), ("go", 1), ("crowd",))
        self.assertEqual(told[5:], [[2, 1, 1, 2], [2, 0, 0, 1, 1, 1, 0]])

    def test_nobody_goes_where_it_is_just_as_far_or_farther(self):
        told = ask(("map", 2, 2, [1] * 4), ("goal", 0, 0), ("put", 0, 0), ("put", 1, 0), ("go", 1), ("crowd",))
        self.assertEqual(told[4:], [[1, 1, 1, 0], [1, 1, 1, 0]])
        told = ask(ROW, ("goal", 0, 0), ("goal", 3, 0), ("put", 0, 0), ("put", 1, 0), ("far", 1, 0), ("far", 2, 0),
                   ("go", 1), ("crowd",))
        self.assertEqual(told[5:], [[1], [1], [1, 1, 1, 0], [1, 1, 1, 0]])

    def test_of_several_as_far_the_first_of_right_below_left_above(self):
        """From the middle each side leads to a goal two places off."""
        around = [((3, 2), (4, 2)), ((2, 3), (2, 4)), ((1, 2), (0, 2)), ((2, 1), (2, 0))]
        for wanted in range(1, 16):
            sides = [around[i] for i in range(4) if wanted >> i & 1]
            with self.subTest(sides=sides):
                told = ask(("map", 5, 5, [1] * 25), *[("goal", *goal) for place, goal in sides], ("put", 2, 2), ("go", 1),
                           ("crowd",))
                self.assertEqual(told[-2:], [[1, 0], [1, 0, *sides[0][0]]])

    def test_of_several_as_far_the_first_that_is_free(self):
        """Goals on all sides, with figures at some of them, who stay there until all have had their turn."""
        around = [(2, 1), (1, 2), (0, 1), (1, 0)]
        for wanted in range(16):
            taken = [around[i] for i in range(4) if wanted >> i & 1]
            with self.subTest(taken=taken):
                told = ask(("map", 3, 3, [1] * 9), *[("goal", x, y) for x, y in around], ("put", 1, 1),
                           *[("put", x, y) for x, y in taken], ("go", 1))
                gone = [number for step, number in pairs(told[-1][2:])]
                staying = [] if len(taken) < 4 else [0]
                self.assertEqual(told[-1][0], len(staying))
                self.assertEqual(gone, [number for number in range(len(taken) + 1) if number not in staying])

    def test_not_where_one_stands_that_could_not_go(self):
        told = ask(ROW, ("goal", 0, 0), ("put", 3, 0), ("put", 2, 0), ("put", 1, 0), ("put", 0, 0), ("go", 1), ("crowd",))
        self.assertEqual(told[6:], [[3, 1, 1, 3], [3, 0, 3, 0, 1, 2, 0, 2, 1, 0]])

    def test_nobody_goes_into_a_wall_or_off_the_map(self):
        told = ask(("map", 3, 3, [1, 0, 1, 1, 0, 1, 1, 1, 1]), ("goal", 2, 0), ("put", 0, 0), ("go", 1), ("crowd",),
                   ("go", 4), ("crowd",), ("go", 1))
        self.assertEqual([told[i] for i in (4, 6, 7)], [[1, 0, 0, 1], [1, 0, 2, 1], [0, 1, 1, 0]])


class GoneTest(unittest.TestCase):
    def test_one_that_stands_at_a_goal_as_the_go_begins(self):
        told = ask(ROW, ("goal", 1, 0), ("put", 1, 0), ("go", 0), ("crowd",), ("go", 3), ("crowd",))
        self.assertEqual(told[3:], [[1, 0], [1, 0, 1, 0], [0, 1, 1, 0], [0]])

    def test_it_does_not_go_to_another_goal(self):
        told = ask(ROW, ("goal", 1, 0), ("goal", 2, 0), ("put", 1, 0), ("put", 3, 0), ("go", 1))
        self.assertEqual(told[5], [0, 2, 1, 0, 1, 1])

    def test_only_when_all_have_had_their_turn(self):
        """Who comes to the goal first keeps the others off it in that step."""
        told = ask(("map", 3, 3, [1] * 9), ("goal", 1, 1), ("put", 1, 0), ("put", 0, 1), ("put", 2, 1), ("put", 1, 2),
                   ("go", 1), ("crowd",), ("go", 2), ("go", 60))
        self.assertEqual(told[6], [3, 1, 1, 0])
        self.assertEqual(triples(told[7][1:]), [(1, 0, 1), (2, 2, 1), (3, 1, 2)])
        self.assertEqual(told[8:], [[1, 2, 1, 1, 2, 2], [0, 1, 1, 3]])

    def test_two_in_one_step_in_the_order_in_which_they_were_put(self):
        told = ask(("map", 4, 1, [1, 50, 1, 1]), ("goal", 0, 0), ("goal", 3, 0), ("put", 1, 0), ("put", 2, 0), ("go", 1))
        self.assertEqual(told[5], [0, 2, 1, 0, 1, 1])
        # Here the second has its turn first, since it stands at a goal already.
        told = ask(("map", 2, 2, [1] * 4), ("goal", 1, 0), ("goal", 0, 1), ("put", 0, 0), ("put", 1, 0), ("go", 1))
        self.assertEqual(told[5], [0, 2, 1, 0, 1, 1])

    def test_the_order_in_which_they_were_put_where_the_nearer_was_put_later(self):
        told = ask(("map", 5, 1, [9, 1, 1, 1, 1]), ("goal", 0, 0), ("goal", 4, 0), ("put", 1, 0), ("put", 3, 0),
                   ("far", 1, 0), ("far", 3, 0), ("set", 2, 0, 0), ("far", 1, 0), ("go", 1))
        self.assertEqual(told[5:7] + told[8:], [[3], [1], [9], [0, 2, 1, 0, 1, 1]])

    def test_step_by_step_ahead_of_the_order_in_which_they_were_put(self):
        told = ask(("map", 7, 1, [1] * 7), ("goal", 0, 0), ("goal", 6, 0), ("put", 3, 0), ("put", 4, 0), ("put", 2, 0),
                   ("put", 1, 0), ("go", 60))
        self.assertEqual(told[7][:2], [0, 4])
        self.assertEqual(pairs(told[7][2:]), [(1, 3), (2, 1), (2, 2), (3, 0)])

    def test_a_goal_that_is_none_any_more_lets_nobody_go(self):
        told = ask(ROW, ("goal", 0, 0), ("goal", 3, 0), ("put", 0, 0), ("noGoal", 0, 0), ("go", 1), ("crowd",))
        self.assertEqual(told[5:], [[1, 0], [1, 0, 1, 0]])

    def test_a_goal_that_comes_where_one_stands(self):
        told = ask(ROW, ("goal", 0, 0), ("put", 3, 0), ("goal", 3, 0), ("crowd",), ("go", 1))
        self.assertEqual(told[3:], [[4], [1, 0, 3, 0], [0, 1, 1, 0]])


class ChangedGroundTest(unittest.TestCase):
    def test_goes_by_the_ground_as_it_is_then(self):
        told = ask(("map", 3, 2, [1] * 6), ("goal", 2, 0), ("put", 0, 0), ("set", 1, 0, 0), ("go", 1), ("crowd",),
                   ("set", 1, 0, 1), ("set", 1, 1, 0), ("go", 1), ("crowd",), ("go", 60))
        self.assertEqual([told[i] for i in (5, 9, 10)], [[1, 0, 0, 1], [1, 0, 0, 0], [0, 1, 2, 0]])

    def test_stays_when_it_is_walled_in_and_goes_on_when_that_ends(self):
        told = ask(ROW, ("goal", 0, 0), ("put", 3, 0), ("set", 1, 0, 0), ("go", 9), ("crowd",), ("set", 1, 0, 99),
                   ("go", 9))
        self.assertEqual(told[3:], [[1], [1, 0], [1, 0, 3, 0], [4], [0, 1, 3, 0]])

    def test_slow_ground_under_somebody_changes_who_goes_where(self):
        told = ask(("map", 3, 1, [1, 1, 1]), ("goal", 0, 0), ("goal", 2, 0), ("put", 1, 0), ("set", 1, 0, 99),
                   ("set", 2, 0, 50), ("far", 1, 0), ("next", 1, 0), ("go", 1))
        self.assertEqual(told[4:], [[3], [3], [1], [0, 0], [0, 1, 1, 0]])

    def test_turns_about_when_goals_come_and_go(self):
        told = ask(("map", 6, 1, [1] * 6), ("goal", 0, 0), ("put", 3, 0), ("go", 1), ("noGoal", 0, 0), ("go", 1),
                   ("crowd",), ("goal", 5, 0), ("go", 1), ("crowd",), ("goal", 1, 0), ("go", 1), ("crowd",))
        self.assertEqual([told[i] for i in (6, 9, 12)], [[1, 0, 2, 0], [1, 0, 3, 0], [1, 0, 4, 0]])


class AnyCrowdTest(unittest.TestCase):
    """What is promised of every step, on maps and crowds of many kinds."""

    def test_each_step(self):
        moved, gone_in_all, aside = 0, 0, 0
        for seed in range(150):
            dice = Dice(seed + 7)
            wide, high = 1 + dice.throw(6), 1 + dice.throw(6)
            costs = thrown_costs(dice, wide, high, dice.choose([[1], [0, 1, 1, 1], [1, 2, 50, 99], [0, 1, 1, 2, 9]]))
            goals = thrown_goals(dice, wide, high)[:3]
            far = by_rounds(wide, high, costs, goals)
            puts = [("put", dice.throw(wide), dice.throw(high)) for figure in range(12)]
            start = [("map", wide, high, costs), *[("goal", x, y) for x, y in goals], *puts, ("crowd",)]
            told = ask(*start, *[("go", 1), ("crowd",)] * 6)
            whole = ask(*start, ("go", 6), ("crowd",))
            with self.subTest(seed=seed, costs=costs, goals=goals, puts=puts):
                before = {number: (x, y) for number, x, y in triples(told[len(start) - 1][1:])}
                gone_then = []
                for step in range(1, 7):
                    went, crowd = told[len(start) + 2 * step - 2], told[len(start) + 2 * step - 1]
                    after = {number: (x, y) for number, x, y in triples(crowd[1:])}
                    gone = [number for one, number in pairs(went[2:])]
                    gone_then.extend((step, number) for number in gone)
                    self.assertEqual(went[:2], [len(after), len(gone)])
                    self.assertEqual(sorted(gone + list(after)), list(before))
                    self.assertEqual(list(after), sorted(after))
                    self.assertEqual(gone, sorted(gone))
                    self.assertEqual(len(set(after.values())), len(after))
                    for number, place in after.items():
                        here = before[number]
                        self.assertNotEqual(costs[place[1] * wide + place[0]], 0)
                        self.assertNotIn(place, goals)
                        if place != here:
                            self.assertIn(place, neighbours(wide, high, here))
                            self.assertLess(far[place], far[here])
                            moved += 1
                            aside += far[place] + costs[place[1] * wide + place[0]] != far[here]
                    for number in gone:
                        near = [before[number], *neighbours(wide, high, before[number])]
                        self.assertTrue([place for place in near if place in goals])
                    gone_in_all += len(gone)
                    before = after
                # As many steps at once come to the same as one by one.
                self.assertEqual(pairs(whole[-2][2:]), gone_then)
                self.assertEqual(whole[-1], told[-1])
        self.assertGreater(moved, 500)
        self.assertGreater(gone_in_all, 300)
        self.assertGreater(aside, 10)


if __name__ == "__main__":
    unittest.main()
