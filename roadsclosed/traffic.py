"""Runners and cars at one crossing, minute by minute."""


def runner_marks(minutes, spans):
    """For each minute of the day, whether runners pass in it."""
    marks = [False] * minutes
    for start, length in spans:
        for minute in range(start, start + length):
            marks[minute] = True
    return marks


def car_marks(minutes, gap, spans):
    """For each minute of the day, whether cars may cross in it."""
    # A gap may reach behind the day, where all minutes are free, but never ahead of minute 0.
    runners = runner_marks(minutes, spans) + [False] * gap
    marks = [False] * minutes
    for start in range(minutes):
        if True not in runners[start:start + gap]:
            for minute in range(start, min(start + gap, minutes)):
                marks[minute] = True
    return marks


def first_car_minute(cars, t):
    """The first minute from t on in which cars may cross: the day's number of minutes, if in none."""
    minute = t
    while minute < len(cars) and not cars[minute]:
        minute += 1
    return minute


def shut_spans(cars):
    """Each shut, rising, as a tuple (first minute, how many minutes)."""
    found = []
    minute = 0
    while minute < len(cars):
        if cars[minute]:
            minute += 1
        else:
            behind = first_car_minute(cars, minute)
            found.append((minute, behind - minute))
            minute = behind
    return found


def cars_at(course, c):
    return car_marks(course.minutes, course.gap, course.crossings[c])


def shuts_at(course, c):
    return shut_spans(cars_at(course, c))
