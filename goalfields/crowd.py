"""The figures on a map: where each one stands, and how they go."""

from goalfields.ways import beside


class Crowd:
    """Figures by their numbers, each on a spot of its own."""

    def __init__(self):
        # The spot of each figure by its number, in the order in which they were put.
        self.spots = {}
        # Counts on when figures are gone, so that no number is given twice.
        self.given = 0

    def put_on(self, spot):
        """The number of the figure that stands there from now on."""
        number = self.given
        self.spots[number] = spot
        self.given += 1
        return number

    def leave_all(self):
        self.spots = {}

    def how_many(self):
        return len(self.spots)

    def stands_on(self, spot):
        return spot in list(self.spots.values())

    def take_step(self, wide, high, field):
        """One step of all; gives back the numbers of those who are gone at goals then."""
        order = turns(self.spots, field)
        for number in order:
            self.spots[number] = self.goes_to(wide, high, field, self.spots[number])
        return self.leave_goals(field)

    def goes_to(self, wide, high, field, spot):
        """The spot where the figure on this one stands after its turn."""
        nearer = nearer_spots(wide, high, field, spot)
        free = [other for other in nearer if not self.stands_on(other)]
        if len(free) == 0:
            return spot
        return min(free, key=lambda other: field[other])

    def leave_goals(self, field):
        # Nobody stands in a wall, so whoever is at no distance stands at a goal that counts.
        gone = [number for number in self.spots if field[self.spots[number]] == 0]
        for number in gone:
            self.spots.pop(number)
        return gone


def turns(spots, field):
    """The numbers of the figures that may go, in the order of their turns."""
    # Those nowhere come last and have nothing nearer beside them, so they need no turn.
    near = [number for number in spots if field[spots[number]] is not None]
    return sorted(near, key=lambda number: (field[spots[number]], number))


def nearer_spots(wide, high, field, spot):
    """The spots beside one that are less far than it, which is not nowhere."""
    return [other for other in beside(wide, high, spot) if field[other] is not None and field[other] < field[spot]]
