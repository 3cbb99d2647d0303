"""The calls that ask how soon one can be at a place: each answers a list of numbers, and changes nothing."""

from roadsclosed.course import has_place
from roadsclosed.refusals import NO_SUCH, NO_WAY, WRONG
from roadsclosed.ways import Network, earliest_minutes


def way_refusal(course, p, q, t):
    """Why the ways from p to q in minute t can't be asked about, or 0 if they can."""
    if not has_place(course, p) or not has_place(course, q):
        return NO_SUCH
    if t >= course.minutes:
        return WRONG
    return 0


def ask_arrive(course, p, q, t):
    refusal = way_refusal(course, p, q, t)
    if refusal < 0:
        return [refusal]
    return [earliest_minutes(Network(course), p, t).get(q, NO_WAY)]


def ask_all_places(course, p, t):
    refusal = way_refusal(course, p, p, t)
    if refusal < 0:
        return [refusal]
    earliest = earliest_minutes(Network(course), p, t)
    # A place without a way counts as come to in minute -1, since 1 is added and 0 tells that there is none.
    return [course.places] + [earliest.get(place, -1) + 1 for place in range(course.places)]


def ask_latest(course, p, q, t):
    refusal = way_refusal(course, p, q, t)
    if refusal < 0:
        return [refusal]
    network = Network(course)
    for minute in range(t, -1, -1):
        # Without a way the minute behind t stands for one that is too late.
        if earliest_minutes(network, p, minute).get(q, t + 1) <= t:
            return [minute]
    return [NO_WAY]


def ask_worst(course, p, q):
    refusal = way_refusal(course, p, q, 0)
    if refusal < 0:
        return [refusal]
    network = Network(course)
    if q not in earliest_minutes(network, p, 0):
        return [NO_WAY]
    taken = [earliest_minutes(network, p, minute)[q] - minute for minute in range(course.minutes)]
    return [taken.index(max(taken)), max(taken)]
