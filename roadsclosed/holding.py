"""How runners are held in the shuts of one crossing, so that it never lies closed for too long."""


def hold_minutes(shuts, gap, most):
    """The minutes in which a hold begins, rising; each hold lasts as long as a gap needs."""
    found = []
    for first, length in shuts:
        minute = first + most
        while minute < first + length:
            found.append(minute)
            minute += gap + most
    return found


def least_most(shuts, gap, n):
    """The least most of minutes for which n holds are enough."""
    # No shut is longer than the day, so that a most of the day's minutes, which takes no hold, ends this.
    most = 1
    while len(hold_minutes(shuts, gap, most)) > n:
        most += 1
    return most
