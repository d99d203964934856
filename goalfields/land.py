"""One map, its goals and the crowd on it, and what the calls on it answer."""

from goalfields.ways import reckon_field

LONGEST_SIDE = 12
DEAREST = 99
MOST_GOALS = 6

BAD_NUMBER = -1
NOT_THERE = -2
TAKEN = -4
TOO_MANY = -5
NOWHERE = -6


class Land:
    """Each method that answers a call gives a list of numbers; a refusal is its number alone.

    A refusal is told before anything is changed, so all is then as it was.
    """

    def __init__(self):
        self.wide = 1
        self.high = 1
        self.costs = [1]
        self.goals = []
        # The spot of each figure by the figure's number.
        self.crowd = {}
        # Kept from one change to the next, since it is asked more often than it changes.
        self.field = [None]

    def lay_out(self, wide, high, costs):
        if not is_map(wide, high, costs):
            return [BAD_NUMBER]
        self.wide = wide
        self.high = high
        self.costs = list(costs)
        self.goals = []
        self.crowd = {}
        self.reckon()
        return [len(costs), len([cost for cost in costs if cost > 0])]

    def set_cost(self, place, cost):
        if cost > DEAREST:
            return [BAD_NUMBER]
        spot = self.spot_of(place)
        if spot is None:
            return [NOT_THERE]
        if cost == 0 and self.is_stood_on(spot):
            return [TAKEN]
        self.costs[spot] = cost
        self.reckon()
        return [self.count_near()]

    def add_goal(self, place):
        spot = self.spot_of(place)
        if spot is None:
            return [NOT_THERE]
        if spot in self.goals:
            return [TAKEN]
        if len(self.goals) >= MOST_GOALS:
            return [TOO_MANY]
        self.goals.append(spot)
        self.reckon()
        return [self.count_near()]

    def drop_goal(self, place):
        spot = self.spot_of(place)
        if spot is None or spot not in self.goals:
            return [NOT_THERE]
        self.goals.remove(spot)
        self.reckon()
        return [self.count_near()]

    def tell_far(self, place):
        spot = self.spot_of(place)
        if spot is None:
            return [NOT_THERE]
        if self.field[spot] is None:
            return [NOWHERE]
        return [self.field[spot]]

    def tell_field(self):
        return [0 if far is None else far + 1 for far in self.field]

    def spot_of(self, place):
        """The spot of a place; None if it is not on the map."""
        column = place[0]
        row = place[1]
        if column >= self.wide or row >= self.high:
            return None
        return row * self.wide + column

    def is_stood_on(self, spot):
        return spot in list(self.crowd.values())

    def reckon(self):
        self.field = reckon_field(self.wide, self.high, self.costs, self.goals)

    def count_near(self):
        """How many places are not nowhere."""
        return len([far for far in self.field if far is not None])


def is_map(wide, high, costs):
    return is_side(wide) and is_side(high) and len(costs) == wide * high and max(costs) <= DEAREST


def is_side(length):
    return 1 <= length <= LONGEST_SIDE
