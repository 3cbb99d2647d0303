"""The calls that ask about the marshals of all crossings, and how the duties are given out."""

from roadsclosed.traffic import cars_at, shuts_at


def ask_marshals(course):
    cars = [cars_at(course, c) for c in range(len(course.crossings))]
    return [max([closed_in(cars, minute) for minute in range(course.minutes)])]


def closed_in(cars, minute):
    """At how many crossings cars may not cross in the minute."""
    return len([marks for marks in cars if not marks[minute]])


def ask_duties(course):
    duties = give_out(shuts_in_order(course))
    answer = [len(duties)]
    for duty in duties:
        answer.extend(duty)
    return answer


def shuts_in_order(course):
    """The shuts of all crossings, each as a tuple (first minute, crossing, how many minutes)."""
    found = []
    for c in range(len(course.crossings)):
        for first, length in shuts_at(course, c):
            found.append((first, c, length))
    return sorted(found)


def give_out(shuts):
    """Each shut, in the order in which they are handed in, with its marshal behind it."""
    duties = []
    # Of each marshal called on so far, the minute from which on nothing is left to do.
    free_from = []
    for first, c, length in shuts:
        marshal = least_free(free_from, first)
        if marshal == len(free_from):
            free_from.append(0)
        free_from[marshal] = first + length
        duties.append((first, c, length, marshal))
    return duties


def least_free(free_from, minute):
    """The least marshal who has nothing to do in the minute: a new one, if all have."""
    marshal = 0
    while marshal < len(free_from) and free_from[marshal] > minute:
        marshal += 1
    return marshal
