"""The calls that make a course: each answers one number, and changes nothing where that is a refusal."""

from roadsclosed.course import has_crossing, has_place
from roadsclosed.refusals import FULL, NO_SUCH, WRONG

MOST_MINUTES = 120
MOST_GAP = 8
MOST_CROSSINGS = 6
MOST_SPANS = 6
MOST_PLACES = 6
MOST_ROADS = 12
MOST_ROAD_MINUTES = 100


def begin(course, minutes, gap):
    if not 1 <= minutes <= MOST_MINUTES or not 1 <= gap <= MOST_GAP:
        return WRONG
    course.begun = True
    course.minutes = minutes
    course.gap = gap
    course.crossings = []
    course.places = 0
    course.roads = []
    return 0


def add_crossing(course):
    if len(course.crossings) == MOST_CROSSINGS:
        return FULL
    course.crossings.append([])
    return len(course.crossings) - 1


def add_span(course, c, start, length):
    if not has_crossing(course, c):
        return NO_SUCH
    if length == 0 or start + length > course.minutes:
        return WRONG
    spans = course.crossings[c]
    if len(spans) == MOST_SPANS:
        return FULL
    spans.append((start, length))
    return len(spans)


def clear_spans(course, c):
    if not has_crossing(course, c):
        return NO_SUCH
    had = len(course.crossings[c])
    course.crossings[c] = []
    return had


def add_place(course):
    if course.places == MOST_PLACES:
        return FULL
    course.places += 1
    return course.places - 1


def add_road(course, p, q, length, over):
    """over: its crossing's number and 1, or 0 for none."""
    if not has_place(course, p) or not has_place(course, q):
        return NO_SUCH
    if over > 0 and not has_crossing(course, over - 1):
        return NO_SUCH
    if p == q or not 1 <= length <= MOST_ROAD_MINUTES:
        return WRONG
    if len(course.roads) == MOST_ROADS:
        return FULL
    course.roads.append((p, q, length, over))
    return len(course.roads) - 1


def change_gap(course, n):
    if not 1 <= n <= MOST_GAP:
        return WRONG
    needed = course.gap
    course.gap = n
    return needed
