"""The calls that tell what was made."""

from roadsclosed.course import has_road
from roadsclosed.refusals import NO_SUCH


def ask_look(course, r):
    if not has_road(course, r):
        return [NO_SUCH]
    road = course.roads[r]
    return [road[2], road[0], road[1], road[3]]


def ask_state(course):
    return [course.minutes, course.gap, len(course.crossings), course.places, len(course.roads)]
