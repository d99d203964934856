"""The list of numbers that is handed in and the one that is given back."""

import inspect
import unittest

import goalfields.maps
from goalfields.maps import answers
from helper import Dice, HIGHEST, as_field, ask, by_rounds, neighbours, parted, written


class Model:
    """What the document says of the twelve calls, as plainly as can be: all is reckoned anew each time."""

    def __init__(self):
        self.wide, self.high, self.costs, self.goals = 1, 1, [1], []
        self.crowd, self.numbers = [], list(range(30))

    def far(self):
        return by_rounds(self.wide, self.high, self.costs, self.goals)

    def on_map(self, x, y):
        return (x, y) in [(a, b) for a in range(self.wide) for b in range(self.high)]

    def cost(self, place):
        return self.costs[place[1] * self.wide + place[0]]

    def beside(self, place):
        return neighbours(self.wide, self.high, place)

    def stands(self, place):
        return any(here == place for number, here in self.crowd)

    def answer(self, call):
        return getattr(self, "answer_" + call[0])(*call[1:])

    def answer_map(self, wide, high, costs):
        sides = range(1, 13)
        if wide not in sides or high not in sides or len(costs) != wide * high or any(cost > 99 for cost in costs):
            return [-1]
        self.wide, self.high, self.costs, self.goals = wide, high, list(costs), []
        self.crowd = []
        return [wide * high, wide * high - costs.count(0)]

    def answer_set(self, x, y, cost):
        if cost > 99:
            return [-1]
        if not self.on_map(x, y):
            return [-2]
        if cost == 0 and self.stands((x, y)):
            return [-4]
        self.costs[y * self.wide + x] = cost
        return [len(self.far())]

    def answer_goal(self, x, y):
        if not self.on_map(x, y):
            return [-2]
        if (x, y) in self.goals:
            return [-4]
        if len(self.goals) == 6:
            return [-5]
        self.goals.append((x, y))
        return [len(self.far())]

    def answer_noGoal(self, x, y):
        if (x, y) not in self.goals:
            return [-2]
        self.goals.remove((x, y))
        return [len(self.far())]

    def answer_far(self, x, y):
        if not self.on_map(x, y):
            return [-2]
        return [self.far().get((x, y), -6)]

    def answer_field(self):
        return as_field(self.wide, self.high, self.far())

    def way(self, place):
        """The way told, from its end on: the goal, then back to the place."""
        far = self.far()
        if far[place] == 0:
            return [place]
        for other in self.beside(place):
            if other in far and far[place] - self.cost(other) == far[other]:
                return self.way(other) + [place]

    def answer_way(self, x, y):
        if not self.on_map(x, y):
            return [-2]
        if (x, y) not in self.far():
            return [-6]
        places = self.way((x, y))[::-1]
        return [sum(self.cost(place) for place in places[1:]), len(places)] + [n for place in places for n in place]

    def answer_next(self, x, y):
        way = self.answer_way(x, y)
        if way[0] < 0:
            return way
        return way[4:6] or [-7]

    def answer_put(self, x, y):
        if not self.on_map(x, y):
            return [-2]
        if self.cost((x, y)) == 0 or self.stands((x, y)):
            return [-4]
        if len(self.crowd) == 12:
            return [-5]
        self.crowd.append((self.numbers.pop(0), (x, y)))
        return [self.crowd[-1][0]]

    def turn(self, far, number, here):
        """Where the figure goes: each place beside it that is free and less far than the best one so far."""
        best = here
        for other in self.beside(here):
            if other in far and here in far and far[other] < far[best] and not self.stands(other):
                best = other
        at = self.crowd.index((number, here))
        self.crowd[at] = (number, best)

    def answer_go(self, n):
        if n > 60:
            return [-1]
        far = self.far()
        gone = []
        for step in range(1, n + 1):
            for distance, number, here in sorted((far.get(here, HIGHEST), number, here) for number, here in self.crowd):
                self.turn(far, number, here)
            gone += [(step, number) for number, here in self.crowd if here in self.goals]
            self.crowd = [(number, here) for number, here in self.crowd if here not in self.goals]
        return [len(self.crowd), len(gone)] + [n for pair in gone for n in pair]

    def answer_crowd(self):
        return [len(self.crowd)] + [n for number, (x, y) in self.crowd for n in (number, x, y)]

    def answer_changed(self, x, y, cost):
        if cost > 99:
            return [-1]
        if not self.on_map(x, y):
            return [-2]
        costs = self.costs[:y * self.wide + x] + [cost] + self.costs[y * self.wide + x + 1:]
        before, after = self.far(), by_rounds(self.wide, self.high, costs, self.goals)
        others = [(a, b) for b in range(self.high) for a in range(self.wide) if before.get((a, b)) != after.get((a, b))]
        return [len(others)] + [n for place in others for n in (*place, after.get(place, -1) + 1)]


def thrown_map(dice):
    wide, high = (dice.choose([1, 2, 3, 4, 5, 12]) for side in range(2))
    ground = dice.choose([[1], [0, 1, 1, 1, 2], [1, 2, 9, 50], [0, 1, 1, 2, 9, 99]])
    return ("map", wide, high, [dice.choose(ground) for place in range(wide * high)])


def spoilt_map(dice):
    name, wide, high, costs = thrown_map(dice)
    spoilt = dice.throw(3)
    if spoilt == 0:
        return (name, wide, high, costs + [1])
    if spoilt == 1:
        return (name, wide, high, costs[:-1] + [dice.choose([100, HIGHEST])])
    return (name, dice.choose([0, 13, HIGHEST]), high, costs)


EVENLY = "map set set goal goal goal noGoal far field way way next next put put put go go crowd changed changed".split()
# Lines of these ask of many figures on one map, and of goals that come and go beneath them.
CROWDED = "put put put put put put put put put put put put put put go crowd goal noGoal set".split()
BUSY = "put put put go go go crowd crowd set goal noGoal".split()
GOALS = "goal goal goal goal goal goal noGoal way next field".split()


def thrown_place(dice, model, name):
    if dice.throw(12) == 0:
        return dice.choose([(model.wide, 0), (0, model.high), (model.wide, model.high), (HIGHEST, HIGHEST)])
    if name in ("noGoal", "next") and model.goals and dice.throw(3) == 0:
        return dice.choose(model.goals)
    if name == "set" and model.crowd and dice.throw(3) == 0:
        return dice.choose(model.crowd)[1]
    return (dice.throw(model.wide), dice.throw(model.high))


def thrown_call(dice, model, name):
    if name == "map":
        return dice.choose([thrown_map, spoilt_map])(dice)
    if name in ("field", "crowd"):
        return (name,)
    if name == "go":
        return (name, dice.choose([0, 1, 1, 1, 1, 1, 2, 3, 60, 61]))
    place = thrown_place(dice, model, name)
    if name in ("set", "changed"):
        return (name, *place, dice.choose([0, 0, 1, 2, 50, 99, 100]))
    return (name, *place)


def thrown_line(dice, model):
    """Calls and what the model answers to each."""
    names = dice.choose([EVENLY, EVENLY, CROWDED, BUSY, GOALS])
    calls, expected = [], []
    first = thrown_map(dice) if dice.throw(8) > 0 else thrown_call(dice, model, dice.choose(names))
    for time in range(1 + dice.throw(30)):
        name = "goal" if time in (1, 2) else dice.choose(names)
        calls.append(thrown_call(dice, model, name) if time > 0 else first)
        expected.append(model.answer(calls[-1]))
    return calls, expected


class ShapeTest(unittest.TestCase):
    def test_name_and_argument(self):
        self.assertEqual(list(inspect.signature(goalfields.maps.answers).parameters), ["calls"])
        self.assertEqual(answers(calls=[5]), [1, 0])

    def test_numbers_of_the_calls(self):
        numbers = [0, 3, 1, 3, 1, 9, 1, 1, 2, 0, 4, 2, 0, 0, 4, 2, 0, 5, 3, 0, 0, 5]
        self.assertEqual(answers(numbers), [2, 3, 3, 1, 0, 1, 3, 1, 10, 3, 1, 2, 11, 1, 0, 3, 0, 0, 0])

    def test_numbers_of_the_calls_of_ways_and_crowds(self):
        numbers = [0, 3, 1, 3, 1, 9, 1, 2, 0, 0, 6, 2, 0, 7, 2, 0, 8, 2, 0, 8, 0, 0, 10, 9, 1, 10, 11, 1, 0, 8]
        self.assertEqual(answers(numbers), [2, 3, 3, 1, 3,
                                            8, 10, 3, 2, 0, 1, 0, 0, 0,
                                            2, 1, 0,
                                            1, 0, 1, 1,
                                            7, 2, 0, 2, 0, 1, 0, 0,
                                            4, 1, 1, 1, 1,
                                            4, 1, 0, 1, 0,
                                            4, 1, 2, 0, 10])

    def test_refusals_of_ways_and_crowds_stand_alone(self):
        numbers = [6, 1, 0, 6, 0, 0, 7, 1, 0, 7, 0, 0, 8, 1, 0, 8, 0, 0, 8, 0, 0, 9, 61, 11, 0, 0, 100, 11, 1, 0, 1,
                   2, 0, 0, 7, 0, 0, 1, 0, 0, 0]
        self.assertEqual(answers(numbers), [1, -2, 1, -6, 1, -2, 1, -6, 1, -2, 1, 0, 1, -4, 1, -1, 1, -1, 1, -2,
                                            1, 1, 1, -7, 1, -4])

    def test_count_stands_ahead_of_each_answer(self):
        self.assertEqual(answers([5]), [1, 0])
        self.assertEqual(answers([0, 2, 2, 4, 1, 1, 1, 1]), [2, 4, 4])
        self.assertEqual(answers([0, 2, 2, 4, 1, 1, 1, 1, 5]), [2, 4, 4, 4, 0, 0, 0, 0])
        self.assertEqual(answers([2, 0, 0, 2, 0, 0]), [1, 1, 1, -4])
        self.assertEqual(answers([4, 0, 0]), [1, -6])
        self.assertEqual(answers([10, 9, 60, 11, 0, 0, 0]), [1, 0, 2, 0, 0, 1, 0])

    def test_the_row_of_costs_ends_where_its_own_count_says(self):
        self.assertEqual(answers([0, 2, 2, 0, 2, 0, 0]), [1, -1, 1, 1])
        self.assertEqual(answers([0, 1, 1, 3, 5, 5, 5, 5]), [1, -1, 1, 0])
        self.assertEqual(answers([0, 1, 1, 160] + [5] * 160 + [5]), [1, -1, 1, 0])

    def test_the_longest_list(self):
        largest = [0, 12, 12, 160] + [1] * 160
        self.assertEqual(len(largest) * 30, 4920)
        self.assertEqual(answers(largest * 30), [1, -1] * 30)

    def test_one_to_thirty_calls(self):
        for count in range(1, 31):
            calls = [("goal", 0, 0), ("far", 0, 0), ("noGoal", 0, 0)] * 10
            self.assertEqual(ask(*calls[:count]), ([[1], [0], [0]] * 10)[:count])

    def test_thirty_largest_fields(self):
        calls = [("map", 12, 12, [1] * 144), ("goal", 11, 11)] + [("field",)] * 28
        field = [23 - x - y for y in range(12) for x in range(12)]
        self.assertEqual(ask(*calls), [[144, 144], [144]] + [field] * 28)

    def test_gives_a_list_of_plain_whole_numbers(self):
        told = answers(written([("map", 2, 1, [1, 0]), ("goal", 0, 0), ("field",), ("far", 0, 0), ("far", 1, 0),
                                ("set", 1, 0, 1), ("way", 1, 0), ("next", 1, 0), ("next", 0, 0), ("put", 1, 0),
                                ("put", 0, 0), ("crowd",), ("go", 1), ("go", 1), ("changed", 0, 0, 0),
                                ("noGoal", 0, 0), ("noGoal", 0, 0)]))
        self.assertIs(type(told), list)
        self.assertEqual({type(number) for number in told}, {int})


class KeptTest(unittest.TestCase):
    CALLS = [("map", 3, 1, [1, 2, 3]), ("goal", 0, 0), ("set", 0, 0, 9), ("set", 1, 0, 0), ("field",),
             ("put", 2, 0), ("put", 0, 0), ("set", 1, 0, 5), ("way", 2, 0), ("next", 2, 0), ("changed", 1, 0, 0),
             ("go", 1), ("crowd",), ("noGoal", 0, 0), ("far", 0, 0),
             ("map", 1, 2, [4, 5]), ("set", 0, 1, 6), ("goal", 0, 1), ("field",), ("put", 0, 0), ("crowd",)]

    def test_what_is_handed_in_stays_the_same(self):
        class Watched(list):
            """A list that may only be read."""

            def refuse(self, *values):
                raise AssertionError("the list that was handed in is changed")

            append = extend = insert = pop = remove = clear = reverse = sort = refuse
            __setitem__ = __delitem__ = __iadd__ = __imul__ = refuse

        numbers = written(self.CALLS)
        before = list(numbers)
        told = answers(numbers)
        self.assertEqual(numbers, before)
        self.assertEqual(answers(Watched(before)), told)

    def test_the_same_list_is_answered_alike(self):
        numbers = written(self.CALLS)
        told = answers(numbers)
        again = answers(numbers)
        self.assertEqual(told, again)
        self.assertIsNot(told, again)

    def test_nothing_is_kept_from_one_time_to_the_next(self):
        answers(written(self.CALLS))
        self.assertEqual(answers([5]), [1, 0])
        told = answers([2, 0, 0])
        told.append(7)
        self.assertEqual(answers([2, 0, 0]), [1, 1])
        self.assertEqual(answers([5, 4, 1, 0]), [1, 0, 1, -2])
        self.assertEqual(answers([10, 8, 0, 0]), [1, 0, 1, 0])


class LineTest(unittest.TestCase):
    def test_whole_lines_against_a_plain_model(self):
        seen = {}
        for seed in range(600):
            calls, expected = thrown_line(Dice(seed + 1), Model())
            numbers = written(calls)
            told = answers(numbers)
            with self.subTest(seed=seed, calls=calls):
                self.assertEqual(parted(told, len(calls)), expected)
                self.assertEqual(numbers, written(calls))
                self.assertEqual(answers(numbers), told)
            for call, answer in zip(calls, expected):
                seen[(call[0], min(answer[0], 0))] = True
                if call[0] == "go" and len(answer) > 4:
                    seen["several gone"] = True
        # The lines are worth asking only if each call was answered and refused in each way there.
        refusals = {"map": [-1], "set": [-1, -2, -4], "goal": [-2, -4, -5], "noGoal": [-2], "far": [-2, -6],
                    "field": [], "way": [-2, -6], "next": [-2, -6, -7], "put": [-2, -4, -5], "go": [-1], "crowd": [],
                    "changed": [-1, -2]}
        wanted = [(name, number) for name in refusals for number in [0] + refusals[name]] + ["several gone"]
        self.assertEqual([pair for pair in wanted if pair not in seen], [])
        self.assertEqual([pair for pair in seen if pair not in wanted], [])


if __name__ == "__main__":
    unittest.main()
