"""What the tests share: writing calls as words, and plain means to reckon what is to be answered."""

from goalfields.maps import answers

NUMBERS = {"map": 0, "set": 1, "goal": 2, "noGoal": 3, "far": 4, "field": 5,
           "way": 6, "next": 7, "put": 8, "go": 9, "crowd": 10, "changed": 11}
HIGHEST = 4294967295


def written(calls):
    """The list of numbers for calls such as ("map", 2, 1, [1, 1]), ("far", 0, 0), ("field",)."""
    numbers = []
    for call in calls:
        numbers.append(NUMBERS[call[0]])
        for value in call[1:]:
            if isinstance(value, list):
                numbers.append(len(value))
                numbers.extend(value)
            else:
                numbers.append(value)
    return numbers


def parted(told, how_many):
    """The answers one by one; an error if they aren't just as many as there are calls."""
    found = []
    at = 0
    while at < len(told):
        length = told[at]
        part = told[at + 1:at + 1 + length]
        if length < 1 or len(part) != length:
            raise AssertionError("the counts of %r don't fit" % (told,))
        found.append(part)
        at += 1 + length
    if len(found) != how_many:
        raise AssertionError("%d answers to %d calls" % (len(found), how_many))
    return found


def ask(*calls):
    """What each of the calls answers, in a line of their own."""
    if not 1 <= len(calls) <= 30:
        raise AssertionError("a line has 1 to 30 calls")
    return parted(answers(written(calls)), len(calls))


def last(*calls):
    return ask(*calls)[-1]


def pairs(numbers):
    return [tuple(numbers[i:i + 2]) for i in range(0, len(numbers), 2)]


def triples(numbers):
    return [tuple(numbers[i:i + 3]) for i in range(0, len(numbers), 3)]


def thrown_costs(dice, wide, high, costs):
    return [dice.choose(costs) for place in range(wide * high)]


def thrown_goals(dice, wide, high):
    goals = []
    for time in range(dice.throw(7)):
        place = (dice.throw(wide), dice.throw(high))
        if place not in goals:
            goals.append(place)
    return goals


def winding_map():
    """A map of the largest size with one winding way over 78 places, from (0, 0) to (0, 11)."""
    rows = []
    for y in range(12):
        if y % 2 == 0:
            rows.extend([99] * 12)
        else:
            rows.extend([0] * 11 + [99] if y % 4 == 1 else [99] + [0] * 11)
    return ("map", 12, 12, rows)


def winding_way():
    """The places of that way from its far end on."""
    places = []
    for y in range(12):
        if y % 2 == 0:
            places.extend((x if y % 4 == 0 else 11 - x, y) for x in range(12))
        else:
            places.append((11 if y % 4 == 1 else 0, y))
    return places[::-1]


def neighbours(wide, high, place):
    """The places beside one: right, below, left, above."""
    x, y = place
    around = [(x + 1, y), (x, y + 1), (x - 1, y), (x, y - 1)]
    return [(a, b) for a, b in around if 0 <= a < wide and 0 <= b < high]


def by_rounds(wide, high, costs, goals):
    """How far each place is by mending it from its neighbours, round by round, until nothing gets cheaper."""
    cost = {(i % wide, i // wide): costs[i] for i in range(wide * high)}
    far = {goal: 0 for goal in goals if cost[goal] > 0}
    mended = True
    while mended:
        mended = False
        for place in cost:
            if cost[place] == 0:
                continue
            for other in neighbours(wide, high, place):
                if other in far and (place not in far or far[other] + cost[other] < far[place]):
                    far[place] = far[other] + cost[other]
                    mended = True
    return far


def by_all_ways(wide, high, costs, goals):
    """How far each place is by going every way that comes to no place twice."""
    cost = {(i % wide, i // wide): costs[i] for i in range(wide * high)}
    far = {}

    def walk(start, place, paid, been):
        if place in goals:
            far[start] = min(paid, far.get(start, paid))
        for other in neighbours(wide, high, place):
            if cost[other] > 0 and other not in been:
                walk(start, other, paid + cost[other], been | {other})

    for place in cost:
        if cost[place] > 0:
            walk(place, place, 0, {place})
    return far


def as_field(wide, high, far):
    return [far[(x, y)] + 1 if (x, y) in far else 0 for y in range(high) for x in range(wide)]


class Dice:
    """Numbers that look thrown and are the same each time."""

    def __init__(self, seed):
        self.state = seed * 2654435761 % 2 ** 32

    def throw(self, sides):
        self.state = (self.state * 1664525 + 1013904223) % 2 ** 32
        return (self.state >> 8) % sides

    def choose(self, choices):
        return choices[self.throw(len(choices))]
