"""The list of numbers that is handed in and the one that is given back."""

import inspect
import unittest

import goalfields.maps
from goalfields.maps import answers
from helper import Dice, HIGHEST, as_field, ask, by_rounds, parted, written


class Model:
    """What the document says of the six calls, as plainly as can be: all is reckoned anew each time."""

    def __init__(self):
        self.wide, self.high, self.costs, self.goals = 1, 1, [1], []

    def far(self):
        return by_rounds(self.wide, self.high, self.costs, self.goals)

    def on_map(self, x, y):
        return (x, y) in [(a, b) for a in range(self.wide) for b in range(self.high)]

    def answer(self, call):
        return getattr(self, "answer_" + call[0])(*call[1:])

    def answer_map(self, wide, high, costs):
        sides = range(1, 13)
        if wide not in sides or high not in sides or len(costs) != wide * high or any(cost > 99 for cost in costs):
            return [-1]
        self.wide, self.high, self.costs, self.goals = wide, high, list(costs), []
        return [wide * high, wide * high - costs.count(0)]

    def answer_set(self, x, y, cost):
        if cost > 99:
            return [-1]
        if not self.on_map(x, y):
            return [-2]
        self.costs[y * self.wide + x] = cost
        return [len(self.far())]

    def answer_goal(self, x, y):
        if not self.on_map(x, y):
            return [-2]
        if (x, y) in self.goals:
            return [-4]
        if len(self.goals) == 6:
            return [-5]
        self.goals.append((x, y))
        return [len(self.far())]

    def answer_noGoal(self, x, y):
        if (x, y) not in self.goals:
            return [-2]
        self.goals.remove((x, y))
        return [len(self.far())]

    def answer_far(self, x, y):
        if not self.on_map(x, y):
            return [-2]
        return [self.far().get((x, y), -6)]

    def answer_field(self):
        return as_field(self.wide, self.high, self.far())


def thrown_map(dice):
    wide, high = (dice.choose([1, 2, 3, 4, 5, 12]) for side in range(2))
    costs = [dice.choose([0, 1, 1, 2, 9, 99]) for place in range(wide * high)]
    spoilt = dice.throw(8)
    if spoilt == 0:
        costs.append(1)
    elif spoilt == 1:
        costs[dice.throw(len(costs))] = dice.choose([100, HIGHEST])
    elif spoilt == 2:
        wide = dice.choose([0, 13, HIGHEST])
    return ("map", wide, high, costs)


def thrown_call(dice, model):
    name = dice.choose(["map", "set", "set", "set", "goal", "goal", "goal", "goal", "noGoal", "far", "far", "field"])
    if name == "map":
        return thrown_map(dice)
    if name == "field":
        return (name,)
    place = (dice.throw(model.wide + 1), dice.throw(model.high + 1))
    if name == "noGoal" and model.goals and dice.throw(3) > 0:
        place = dice.choose(model.goals)
    if name == "set":
        return (name, *place, dice.choose([0, 0, 1, 2, 50, 99, 100]))
    return (name, *place)


class ShapeTest(unittest.TestCase):
    def test_name_and_argument(self):
        self.assertEqual(list(inspect.signature(goalfields.maps.answers).parameters), ["calls"])
        self.assertEqual(answers(calls=[5]), [1, 0])

    def test_numbers_of_the_calls(self):
        numbers = [0, 3, 1, 3, 1, 9, 1, 1, 2, 0, 4, 2, 0, 0, 4, 2, 0, 5, 3, 0, 0, 5]
        self.assertEqual(answers(numbers), [2, 3, 3, 1, 0, 1, 3, 1, 10, 3, 1, 2, 11, 1, 0, 3, 0, 0, 0])

    def test_count_stands_ahead_of_each_answer(self):
        self.assertEqual(answers([5]), [1, 0])
        self.assertEqual(answers([0, 2, 2, 4, 1, 1, 1, 1]), [2, 4, 4])
        self.assertEqual(answers([0, 2, 2, 4, 1, 1, 1, 1, 5]), [2, 4, 4, 4, 0, 0, 0, 0])
        self.assertEqual(answers([2, 0, 0, 2, 0, 0]), [1, 1, 1, -4])
        self.assertEqual(answers([4, 0, 0]), [1, -6])

    def test_the_row_of_costs_ends_where_its_own_count_says(self):
        self.assertEqual(answers([0, 2, 2, 0, 2, 0, 0]), [1, -1, 1, 1])
        self.assertEqual(answers([0, 1, 1, 3, 5, 5, 5, 5]), [1, -1, 1, 0])
        self.assertEqual(answers([0, 1, 1, 160] + [5] * 160 + [5]), [1, -1, 1, 0])

    def test_the_longest_list(self):
        largest = [0, 12, 12, 160] + [1] * 160
        self.assertEqual(len(largest) * 30, 4920)
        self.assertEqual(answers(largest * 30), [1, -1] * 30)

    def test_one_to_thirty_calls(self):
        for count in range(1, 31):
            calls = [("goal", 0, 0), ("far", 0, 0), ("noGoal", 0, 0)] * 10
            self.assertEqual(ask(*calls[:count]), ([[1], [0], [0]] * 10)[:count])

    def test_thirty_largest_fields(self):
        calls = [("map", 12, 12, [1] * 144), ("goal", 11, 11)] + [("field",)] * 28
        field = [23 - x - y for y in range(12) for x in range(12)]
        self.assertEqual(ask(*calls), [[144, 144], [144]] + [field] * 28)

    def test_gives_a_list_of_plain_whole_numbers(self):
        told = answers(written([("map", 2, 1, [1, 0]), ("goal", 0, 0), ("field",), ("far", 0, 0), ("far", 1, 0),
                                ("set", 1, 0, 1), ("noGoal", 0, 0), ("noGoal", 0, 0)]))
        self.assertIs(type(told), list)
        self.assertEqual({type(number) for number in told}, {int})


class KeptTest(unittest.TestCase):
    CALLS = [("map", 3, 1, [1, 2, 3]), ("goal", 0, 0), ("set", 0, 0, 9), ("set", 1, 0, 0), ("field",),
             ("map", 1, 2, [4, 5]), ("set", 0, 1, 6), ("goal", 0, 1), ("field",)]

    def test_what_is_handed_in_stays_the_same(self):
        class Watched(list):
            """A list that may only be read."""

            def refuse(self, *values):
                raise AssertionError("the list that was handed in is changed")

            append = extend = insert = pop = remove = clear = reverse = sort = refuse
            __setitem__ = __delitem__ = __iadd__ = __imul__ = refuse

        numbers = written(self.CALLS)
        before = list(numbers)
        told = answers(numbers)
        self.assertEqual(numbers, before)
        self.assertEqual(answers(Watched(before)), told)

    def test_the_same_list_is_answered_alike(self):
        numbers = written(self.CALLS)
        told = answers(numbers)
        again = answers(numbers)
        self.assertEqual(told, again)
        self.assertIsNot(told, again)

    def test_nothing_is_kept_from_one_time_to_the_next(self):
        answers(written(self.CALLS))
        self.assertEqual(answers([5]), [1, 0])
        told = answers([2, 0, 0])
        told.append(7)
        self.assertEqual(answers([2, 0, 0]), [1, 1])
        self.assertEqual(answers([5, 4, 1, 0]), [1, 0, 1, -2])


class LineTest(unittest.TestCase):
    def test_whole_lines_against_a_plain_model(self):
        seen = {}
        for seed in range(400):
            dice = Dice(seed + 1)
            model = Model()
            calls = []
            expected = []
            for time in range(1 + dice.throw(30)):
                call = thrown_call(dice, model)
                calls.append(call)
                expected.append(model.answer(call))
                refusal = expected[-1][0] if expected[-1][0] < 0 else 0
                seen[(call[0], refusal)] = True
            told = parted(answers(written(calls)), len(calls))
            with self.subTest(seed=seed, calls=calls):
                self.assertEqual(told, expected)
        # The lines are worth asking only if each call was answered and refused in each way there.
        wanted = [("map", 0), ("map", -1), ("set", 0), ("set", -1), ("set", -2), ("goal", 0), ("goal", -2),
                  ("goal", -4), ("goal", -5), ("noGoal", 0), ("noGoal", -2), ("far", 0), ("far", -2), ("far", -6),
                  ("field", 0)]
        self.assertEqual([pair for pair in wanted if pair not in seen], [])


if __name__ == "__main__":
    unittest.main()
