"""Answers the calls of one list, which are all about one map."""

from goalfields.land import Land
from goalfields.reader import Reader


def answers(calls):
    """For each call, in order: how many numbers are answered, then these."""
    land = Land()
    reader = Reader(calls)
    told = []
    while reader.has_more():
        number = reader.take()
        answer = CALLS[number](land, reader)
        told.append(len(answer))
        told.extend(answer)
    return told


def call_map(land, reader):
    wide = reader.take()
    high = reader.take()
    costs = reader.take_row()
    return land.lay_out(wide, high, costs)


def call_set(land, reader):
    place = reader.take_place()
    cost = reader.take()
    return land.set_cost(place, cost)


def call_goal(land, reader):
    return land.add_goal(reader.take_place())


def call_no_goal(land, reader):
    return land.drop_goal(reader.take_place())


def call_far(land, reader):
    return land.tell_far(reader.take_place())


def call_field(land, reader):
    return land.tell_field()


def call_way(land, reader):
    return land.tell_way(reader.take_place())


def call_next(land, reader):
    return land.tell_next(reader.take_place())


def call_put(land, reader):
    return land.put_figure(reader.take_place())


def call_go(land, reader):
    return land.let_go(reader.take())


def call_crowd(land, reader):
    return land.tell_crowd()


def call_changed(land, reader):
    place = reader.take_place()
    cost = reader.take()
    return land.tell_changed(place, cost)


# A call's number is where it stands here.
CALLS = (call_map, call_set, call_goal, call_no_goal, call_far, call_field,
         call_way, call_next, call_put, call_go, call_crowd, call_changed)
