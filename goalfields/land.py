"""One map, its goals and the crowd on it, and what the calls on it answer."""

from goalfields.crowd import Crowd
from goalfields.ways import next_spot, reckon_field, way_told

LONGEST_SIDE = 12
DEAREST = 99
MOST_GOALS = 6
MOST_FIGURES = 12
MOST_STEPS = 60

BAD_NUMBER = -1
NOT_THERE = -2
TAKEN = -4
TOO_MANY = -5
NOWHERE = -6
AT_GOAL = -7


class Land:
    """Each method that answers a call gives a list of numbers; a refusal is its number alone.

    A refusal is told before anything is changed, so all is then as it was.
    """

    def __init__(self):
        self.wide = 1
        self.high = 1
        self.costs = [1]
        self.goals = []
        # One crowd for all maps of a line, since its numbers go on from map to map.
        self.crowd = Crowd()
        # Kept from one change to the next, since it is asked more often than it changes.
        self.field = [None]

    def lay_out(self, wide, high, costs):
        if not is_map(wide, high, costs):
            return [BAD_NUMBER]
        self.wide = wide
        self.high = high
        self.costs = list(costs)
        self.goals = []
        self.crowd.leave_all()
        self.reckon()
        return [len(costs), len([cost for cost in costs if cost > 0])]

    def set_cost(self, place, cost):
        if cost > DEAREST:
            return [BAD_NUMBER]
        spot = self.spot_of(place)
        if spot is None:
            return [NOT_THERE]
        if cost == 0 and self.crowd.stands_on(spot):
            return [TAKEN]
        self.costs[spot] = cost
        self.reckon()
        return [self.count_near()]

    def add_goal(self, place):
        spot = self.spot_of(place)
        if spot is None:
            return [NOT_THERE]
        if spot in self.goals:
            return [TAKEN]
        if len(self.goals) >= MOST_GOALS:
            return [TOO_MANY]
        self.goals.append(spot)
        self.reckon()
        return [self.count_near()]

    def drop_goal(self, place):
        spot = self.spot_of(place)
        if spot is None or spot not in self.goals:
            return [NOT_THERE]
        self.goals.remove(spot)
        self.reckon()
        return [self.count_near()]

    def tell_far(self, place):
        spot = self.spot_of(place)
        if spot is None:
            return [NOT_THERE]
        if self.field[spot] is None:
            return [NOWHERE]
        return [self.field[spot]]

    def tell_field(self):
        return [told_far(far) for far in self.field]

    def tell_way(self, place):
        spot = self.spot_of(place)
        if spot is None:
            return [NOT_THERE]
        if self.field[spot] is None:
            return [NOWHERE]
        spots = way_told(self.wide, self.high, self.costs, self.field, spot)
        told = [self.field[spot], len(spots)]
        for other in spots:
            told.extend(self.place_of(other))
        return told

    def tell_next(self, place):
        spot = self.spot_of(place)
        if spot is None:
            return [NOT_THERE]
        if self.field[spot] is None:
            return [NOWHERE]
        if self.field[spot] == 0:
            return [AT_GOAL]
        return self.place_of(next_spot(self.wide, self.high, self.costs, self.field, spot))

    def put_figure(self, place):
        spot = self.spot_of(place)
        if spot is None:
            return [NOT_THERE]
        if self.costs[spot] == 0 or self.crowd.stands_on(spot):
            return [TAKEN]
        if self.crowd.how_many() >= MOST_FIGURES:
            return [TOO_MANY]
        return [self.crowd.put_on(spot)]

    def let_go(self, steps):
        if steps > MOST_STEPS:
            return [BAD_NUMBER]
        gone = []
        for step in range(1, steps + 1):
            for number in self.crowd.take_step(self.wide, self.high, self.field):
                gone.append((step, number))
        told = [self.crowd.how_many(), len(gone)]
        for pair in gone:
            told.extend(pair)
        return told

    def tell_crowd(self):
        told = [self.crowd.how_many()]
        for number, spot in self.crowd.spots.items():
            told.append(number)
            told.extend(self.place_of(spot))
        return told

    def tell_changed(self, place, cost):
        if cost > DEAREST:
            return [BAD_NUMBER]
        spot = self.spot_of(place)
        if spot is None:
            return [NOT_THERE]
        field = self.field_if(spot, cost)
        others = [other for other in range(len(field)) if field[other] != self.field[other]]
        told = [len(others)]
        for other in others:
            told.extend(self.place_of(other))
            told.append(told_far(field[other]))
        return told

    def spot_of(self, place):
        """The spot of a place; None if it is not on the map."""
        column = place[0]
        row = place[1]
        if column >= self.wide or row >= self.high:
            return None
        return row * self.wide + column

    def place_of(self, spot):
        return [spot % self.wide, spot // self.wide]

    def field_if(self, spot, cost):
        """The field as it would be if it cost that much to step onto that spot."""
        costs = list(self.costs)
        costs[spot] = cost
        return reckon_field(self.wide, self.high, costs, self.goals)

    def reckon(self):
        self.field = reckon_field(self.wide, self.high, self.costs, self.goals)

    def count_near(self):
        """How many places are not nowhere."""
        return len([far for far in self.field if far is not None])


def is_map(wide, high, costs):
    return is_side(wide) and is_side(high) and len(costs) == wide * high and max(costs) <= DEAREST


def is_side(length):
    return 1 <= length <= LONGEST_SIDE


def told_far(far):
    """How far, as a field tells it: 0 is left for nowhere."""
    return 0 if far is None else far + 1
