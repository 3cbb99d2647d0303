"""Lines of calls for the tests: each call is a list, a line is several of them."""

from roadsclosed.crossings import answers

NOT_BEGUN = -61
NO_SUCH = -2
WRONG = -22
FULL = -28
HUGE = 4294967295


def begin(minutes, gap):
    return [0, minutes, gap]


def crossing():
    return [1]


def span(c, start, length):
    return [2, c, start, length]


def clear(c):
    return [3, c]


def place():
    return [4]


def road(p, q, length, over):
    return [5, p, q, length, over]


def gap(n):
    return [6, n]


def runs(c, t):
    return [7, c, t]


def crossable(c, t):
    return [8, c, t]


def following(c, t):
    return [9, c, t]


def shuts(c):
    return [10, c]


def told(calls):
    """What a line answers, one list for each call."""
    flat = answers([number for call in calls for number in call])
    rows = []
    at = 0
    while at < len(flat):
        behind = at + 1 + flat[at]
        rows.append(flat[at + 1:behind])
        at = behind
    return rows


def last(calls):
    """What a line's last call answers."""
    return told(calls)[-1]


def at_crossing(minutes, needed, spans):
    """A line that makes one crossing with these spans."""
    return [begin(minutes, needed), crossing()] + [span(0, start, length) for start, length in spans]


def row(call, minutes):
    """What a call on crossing 0 makes of each minute of the day, as calls."""
    return [call(0, t) for t in range(minutes)]


def answered(calls, asked):
    """The first numbers that the calls asked behind the others answer."""
    return [answer[0] for answer in told(calls + asked)[len(calls):]]


def probe(minutes, crossings):
    """Calls that together show all that a refused call could have changed; the last ones change things themselves."""
    calls = []
    for c in range(crossings):
        calls += [runs(c, t) for t in range(minutes)] + [runs(c, minutes), shuts(c), clear(c)]
    calls += [runs(crossings, 0), gap(1), crossing(), place(), place(), road(0, 1, 1, 0)]
    return calls
