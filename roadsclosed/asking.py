"""The calls that ask about one crossing: each answers a list of numbers, and changes nothing."""

from roadsclosed.course import has_crossing
from roadsclosed.holding import hold_minutes, least_most
from roadsclosed.refusals import NO_SUCH, WRONG
from roadsclosed.traffic import cars_at, first_car_minute, runner_marks, shuts_at

GREATEST_MOST = 120


def minute_refusal(course, c, t):
    """Why minute t of crossing c can't be asked about, or 0 if it can."""
    if not has_crossing(course, c):
        return NO_SUCH
    if t >= course.minutes:
        return WRONG
    return 0


def ask_runs(course, c, t):
    refusal = minute_refusal(course, c, t)
    if refusal < 0:
        return [refusal]
    runners = runner_marks(course.minutes, course.crossings[c])
    return [1 if runners[t] else 0]


def ask_crossable(course, c, t):
    refusal = minute_refusal(course, c, t)
    if refusal < 0:
        return [refusal]
    return [1 if cars_at(course, c)[t] else 0]


def ask_next(course, c, t):
    refusal = minute_refusal(course, c, t)
    if refusal < 0:
        return [refusal]
    return [first_car_minute(cars_at(course, c), t)]


def ask_shuts(course, c):
    if not has_crossing(course, c):
        return [NO_SUCH]
    shuts = shuts_at(course, c)
    answer = [len(shuts)]
    for shut in shuts:
        answer.extend(shut)
    return answer


def ask_longest(course, c):
    if not has_crossing(course, c):
        return [NO_SUCH]
    return [max([length for first, length in shuts_at(course, c)], default=0)]


def ask_holds(course, c, most):
    if not has_crossing(course, c):
        return [NO_SUCH]
    if not 1 <= most <= GREATEST_MOST:
        return [WRONG]
    holds = hold_minutes(shuts_at(course, c), course.gap, most)
    return [len(holds)] + holds


def ask_least(course, c, n):
    if not has_crossing(course, c):
        return [NO_SUCH]
    return [least_most(shuts_at(course, c), course.gap, n)]
