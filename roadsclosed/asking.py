"""The calls that ask about one crossing: each answers a list of numbers, and changes nothing."""

from roadsclosed.course import has_crossing
from roadsclosed.refusals import NO_SUCH, WRONG
from roadsclosed.traffic import car_marks, first_car_minute, runner_marks, shut_spans


def minute_refusal(course, c, t):
    """Why minute t of crossing c can't be asked about, or 0 if it can."""
    if not has_crossing(course, c):
        return NO_SUCH
    if t >= course.minutes:
        return WRONG
    return 0


def cars_at(course, c):
    return car_marks(course.minutes, course.gap, course.crossings[c])


def ask_runs(course, c, t):
    refusal = minute_refusal(course, c, t)
    if refusal < 0:
        return [refusal]
    runners = runner_marks(course.minutes, course.crossings[c])
    return [1 if runners[t] else 0]


def ask_crossable(course, c, t):
    refusal = minute_refusal(course, c, t)
    if refusal < 0:
        return [refusal]
    return [1 if cars_at(course, c)[t] else 0]


def ask_next(course, c, t):
    refusal = minute_refusal(course, c, t)
    if refusal < 0:
        return [refusal]
    return [first_car_minute(cars_at(course, c), t)]


def ask_shuts(course, c):
    if not has_crossing(course, c):
        return [NO_SUCH]
    shuts = shut_spans(cars_at(course, c))
    answer = [len(shuts)]
    for first, length in shuts:
        answer.append(first)
        answer.append(length)
    return answer
