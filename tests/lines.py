"""Lines of calls for the tests: each call is a list, a line is several of them."""

from roadsclosed.crossings import answers

NOT_BEGUN = -61
NO_SUCH = -2
WRONG = -22
FULL = -28
NO_WAY = -33
HUGE = 4294967295


def begin(minutes, gap):
    return [0, minutes, gap]


def crossing():
    return [1]


def span(c, start, length):
    return [2, c, start, length]


def clear(c):
    return [3, c]


def place():
    return [4]


def road(p, q, length, over):
    return [5, p, q, length, over]


def gap(n):
    return [6, n]


def runs(c, t):
    return [7, c, t]


def crossable(c, t):
    return [8, c, t]


def following(c, t):
    return [9, c, t]


def shuts(c):
    return [10, c]


def longest(c):
    return [11, c]


def holds(c, most):
    return [12, c, most]


def least(c, n):
    return [13, c, n]


def marshals():
    return [14]


def duties():
    return [15]


def arrive(p, q, t):
    return [16, p, q, t]


def everywhere(p, t):
    return [17, p, t]


def latest(p, q, t):
    return [18, p, q, t]


def worst(p, q):
    return [19, p, q]


def look(r):
    return [20, r]


def state():
    return [21]


def told(calls):
    """What a line answers, one list for each call."""
    handed = [number for call in calls for number in call]
    if not 1 <= len(calls) <= 100 or len(handed) > 500:
        raise ValueError("no such line is handed in")
    flat = answers(handed)
    rows = []
    at = 0
    while at < len(flat):
        behind = at + 1 + flat[at]
        rows.append(flat[at + 1:behind])
        at = behind
    return rows


def last(calls):
    """What a line's last call answers."""
    return told(calls)[-1]


def at_crossing(minutes, needed, spans):
    """A line that makes one crossing with these spans."""
    return [begin(minutes, needed), crossing()] + [span(0, start, length) for start, length in spans]


def row(call, minutes):
    """What a call on crossing 0 makes of each minute of the day, as calls."""
    return [call(0, t) for t in range(minutes)]


def answered(calls, asked):
    """The first numbers that the calls asked behind the others answer."""
    return [answer[0] for answer in told(calls + asked)[len(calls):]]


def probe(minutes, crossings, roads):
    """Calls that together show all that a refused call could have changed; the last ones change things themselves."""
    calls = [state(), duties()] + [look(r) for r in range(roads + 1)]
    for c in range(crossings):
        calls += [runs(c, t) for t in range(minutes)] + [shuts(c), clear(c)]
    return calls + [gap(1), crossing(), place(), place(), road(0, 1, 1, 0), state()]


def may_cross(free, needed, minute):
    """As the words say it; free tells of each minute of the day, and all behind the day are free."""
    for start in range(max(0, minute - needed + 1), minute + 1):
        if all(at >= len(free) or free[at] for at in range(start, start + needed)):
            return True
    return False


def spans_of(free):
    """Spans that leave just these minutes free."""
    spans = []
    for minute, is_free in enumerate(free):
        if not is_free and spans and sum(spans[-1]) == minute:
            spans[-1] = (spans[-1][0], spans[-1][1] + 1)
        elif not is_free:
            spans.append((minute, 1))
    return spans


def every_day(minutes):
    """Every way in which runners may pass in the minutes of a day: of each minute, whether it's free."""
    return [[pattern >> minute & 1 == 0 for minute in range(minutes)] for pattern in range(2 ** minutes)]
