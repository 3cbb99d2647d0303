"""The object on which a line's calls are made."""


class Course:
    """The day, what a gap needs, and the crossings, places and roads made so far."""

    def __init__(self):
        self.begun = False
        self.minutes = 0
        self.gap = 0
        # For each crossing the list of its spans, each a tuple (first minute, how many minutes).
        self.crossings = []
        # A place has nothing but its number, so that their count is all there is to keep.
        self.places = 0
        # Each road is a tuple (place, other place, how many minutes, its crossing and 1 or 0).
        self.roads = []


def has_crossing(course, c):
    return c < len(course.crossings)


def has_place(course, p):
    return p < course.places


def has_road(course, r):
    return r < len(course.roads)
