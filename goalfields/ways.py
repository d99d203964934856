"""How far the places of a map are from its goals, and which way leads there.

A place is told here by its spot: how many places stand ahead of it, row by row.
"""


def beside(wide, high, spot):
    """The spots beside one, in the order in which the document tells them."""
    column = spot % wide
    row = spot // wide
    spots = []
    if column + 1 < wide:
        spots.append(spot + 1)
    if row + 1 < high:
        spots.append(spot + wide)
    if column > 0:
        spots.append(spot - 1)
    if row > 0:
        spots.append(spot - wide)
    return spots


def reckon_field(wide, high, costs, goals):
    """How far each place is, row by row; None where it is nowhere."""
    field = [None for cost in costs]
    reached = open_goals(costs, goals)
    while len(reached) > 0:
        spot = nearest(reached)
        field[spot] = reached.pop(spot)
        # Ways lead to the goals, so whoever comes by here pays for this spot, not for the one it comes from.
        far = field[spot] + costs[spot]
        for other in beside(wide, high, spot):
            if costs[other] > 0 and field[other] is None:
                reached[other] = min(far, reached.get(other, far))
    return field


def open_goals(costs, goals):
    """The goals that are not in walls, each with how far it is."""
    reached = {}
    for goal in goals:
        if costs[goal] > 0:
            reached[goal] = 0
    return reached


def nearest(reached):
    """The spot that is least far of those reached: no other one can make it nearer any more."""
    return min(reached, key=lambda spot: reached[spot])


def next_spot(wide, high, costs, field, spot):
    """The next place from a spot that is neither nowhere nor at a goal."""
    for other in beside(wide, high, spot):
        if field[other] is not None and field[other] + costs[other] == field[spot]:
            return other
    return None


def way_told(wide, high, costs, field, spot):
    """The spots of the way told from a spot that is not nowhere, with that spot first."""
    spots = [spot]
    # Stepping onto any place costs something, so each next one is nearer and the way ends at a goal.
    while field[spot] > 0:
        spot = next_spot(wide, high, costs, field, spot)
        spots.append(spot)
    return spots
