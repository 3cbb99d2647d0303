"""The calls of one line, handed in as one list of whole numbers, and what they answer."""

from roadsclosed.asking import ask_crossable, ask_holds, ask_least, ask_longest, ask_next, ask_runs, ask_shuts
from roadsclosed.course import Course
from roadsclosed.going import ask_all_places, ask_arrive, ask_latest, ask_worst
from roadsclosed.looking import ask_look, ask_state
from roadsclosed.making import add_crossing, add_place, add_road, add_span, begin, change_gap, clear_spans
from roadsclosed.marshals import ask_duties, ask_marshals
from roadsclosed.refusals import NOT_BEGUN

BEGIN = 0
CROSSING = 1
SPAN = 2
CLEAR = 3
PLACE = 4
ROAD = 5
GAP = 6
RUNS = 7
CROSSABLE = 8
NEXT = 9
SHUTS = 10
LONGEST = 11
HOLDS = 12
LEAST = 13
MARSHALS = 14
DUTIES = 15
ARRIVE = 16
ALL_PLACES = 17
LATEST = 18
WORST = 19
LOOK = 20
STATE = 21

# By a call's number, how many numbers stand behind it.
HANDED = (2, 0, 3, 1, 0, 4, 1, 2, 2, 2, 1, 1, 2, 2, 0, 0, 3, 2, 3, 2, 1, 0)


def answers(calls):
    course = Course()
    told = []
    at = 0
    while at < len(calls):
        behind = at + 1 + HANDED[calls[at]]
        answer = answer_call(course, calls[at], calls[at + 1:behind])
        told.append(len(answer))
        told.extend(answer)
        at = behind
    return told


def answer_call(course, number, handed):
    if number == BEGIN:
        return [begin(course, handed[0], handed[1])]
    if not course.begun:
        return [NOT_BEGUN]
    if number <= GAP:
        return [answer_making(course, number, handed)]
    if number <= LEAST:
        return answer_asking(course, number, handed)
    if ARRIVE <= number <= WORST:
        return answer_going(course, number, handed)
    return answer_overall(course, number, handed)


def answer_making(course, number, handed):
    if number == CROSSING:
        return add_crossing(course)
    if number == SPAN:
        return add_span(course, handed[0], handed[1], handed[2])
    if number == CLEAR:
        return clear_spans(course, handed[0])
    if number == PLACE:
        return add_place(course)
    if number == ROAD:
        return add_road(course, handed[0], handed[1], handed[2], handed[3])
    return change_gap(course, handed[0])


def answer_asking(course, number, handed):
    if number == RUNS:
        return ask_runs(course, handed[0], handed[1])
    if number == CROSSABLE:
        return ask_crossable(course, handed[0], handed[1])
    if number == NEXT:
        return ask_next(course, handed[0], handed[1])
    if number == SHUTS:
        return ask_shuts(course, handed[0])
    if number == LONGEST:
        return ask_longest(course, handed[0])
    if number == HOLDS:
        return ask_holds(course, handed[0], handed[1])
    return ask_least(course, handed[0], handed[1])


def answer_going(course, number, handed):
    if number == ARRIVE:
        return ask_arrive(course, handed[0], handed[1], handed[2])
    if number == ALL_PLACES:
        return ask_all_places(course, handed[0], handed[1])
    if number == LATEST:
        return ask_latest(course, handed[0], handed[1], handed[2])
    return ask_worst(course, handed[0], handed[1])


def answer_overall(course, number, handed):
    if number == MARSHALS:
        return ask_marshals(course)
    if number == DUTIES:
        return ask_duties(course)
    if number == LOOK:
        return ask_look(course, handed[0])
    return ask_state(course)
