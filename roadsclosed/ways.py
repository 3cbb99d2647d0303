"""How soon one can be at a place by the roads."""

from roadsclosed.traffic import cars_at, first_car_minute


class Network:
    """The roads and crossings of a course, as one goes by them, whatever place one leaves and when."""

    def __init__(self, course):
        # Of each crossing, for each minute of the day, the first one from then on in which cars may cross.
        self.waits = [crossing_minutes(cars_at(course, c)) for c in range(len(course.crossings))]
        # Each road once for either way: (place left, place come to, how many minutes, its crossing and 1 or 0).
        self.steps = list(course.roads) + [(q, p, length, over) for p, q, length, over in course.roads]


def crossing_minutes(cars):
    return [first_car_minute(cars, minute) for minute in range(len(cars))]


def road_end(network, length, over, t):
    """The minute in which one is at a road's other end, leaving in minute t."""
    if over == 0:
        return t + length
    half = length // 2
    return crossed_in(network.waits[over - 1], t + half) + length - half


def crossed_in(waits, minute):
    """The minute in which one crosses, being at the crossing in this one."""
    # Behind the day cars may cross at once.
    return waits[minute] if minute < len(waits) else minute


def earliest_minutes(network, p, t):
    """By place, the earliest one can be there, leaving p in minute t; a place without a way is not in it."""
    earliest = {p: t}
    settled = False
    # Who is at a place sooner may be sooner at all places behind it: the roads are gone until none is.
    while not settled:
        settled = True
        for here, there, length, over in network.steps:
            if here in earliest:
                minute = road_end(network, length, over, earliest[here])
                if there not in earliest or minute < earliest[there]:
                    earliest[there] = minute
                    settled = False
    return earliest
