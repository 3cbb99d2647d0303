"""Point 4: arrive, all, latest, worst; and what holds of them, d."""

import itertools
import random
import unittest

from lines import (
    HUGE, NO_SUCH, NO_WAY, WRONG, answered, arrive, begin, clear, crossing, everywhere, gap, last, latest, may_cross,
    place, road, span, spans_of, told, worst,
)


def course(minutes, needed, each, places, roads):
    """A line that makes crossings, each with these spans, so many places, and these roads."""
    made = [begin(minutes, needed)] + [crossing()] * len(each) + [place()] * places
    for c, spans in enumerate(each):
        made += [span(c, start, length) for start, length in spans]
    return made + [road(p, q, length, over) for p, q, length, over in roads]


def arrivals(made, p, q, minutes):
    return answered(made, [arrive(p, q, t) for t in minutes])


class RoadOverNone(unittest.TestCase):
    made = course(10, 1, [[(0, 10)]], 2, [(0, 1, 4, 0)])

    def test_so_many_minutes_later(self):
        self.assertEqual(arrivals(self.made, 0, 1, range(10)), list(range(4, 14)))

    def test_either_way(self):
        self.assertEqual(arrivals(self.made, 1, 0, range(10)), list(range(4, 14)))

    def test_the_shortest_and_the_longest(self):
        self.assertEqual(last(course(10, 1, [], 2, [(0, 1, 1, 0)]) + [arrive(0, 1, 3)]), [4])
        self.assertEqual(last(course(10, 1, [], 2, [(0, 1, 100, 0)]) + [arrive(0, 1, 9)]), [109])


class RoadOverACrossing(unittest.TestCase):
    def test_without_a_wait(self):
        made = course(20, 1, [[(9, 1)]], 2, [(0, 1, 6, 1)])
        self.assertEqual(arrivals(made, 0, 1, (0, 5, 7, 19)), [6, 11, 13, 25])

    def test_with_a_wait(self):
        # At the crossing 3 later, over it in minute 12 or later, at the end 3 behind that.
        made = course(20, 1, [[(8, 4)]], 2, [(0, 1, 6, 1)])
        self.assertEqual(arrivals(made, 0, 1, (4, 5, 6, 7, 8, 9, 10)), [10, 15, 15, 15, 15, 15, 16])

    def test_half_is_rounded_down(self):
        # Of 7 minutes 3 lie ahead of the crossing and 4 behind it, whichever way they are gone.
        made = course(20, 1, [[(8, 4)]], 2, [(0, 1, 7, 1)])
        for p, q in ((0, 1), (1, 0)):
            self.assertEqual(arrivals(made, p, q, (4, 5, 8, 9, 10)), [11, 16, 16, 16, 17])

    def test_of_one_minute(self):
        made = course(10, 1, [[(2, 3)]], 2, [(0, 1, 1, 1)])
        for p, q in ((0, 1), (1, 0)):
            self.assertEqual(arrivals(made, p, q, range(10)), [1, 2, 6, 6, 6, 6, 7, 8, 9, 10])

    def test_of_two_minutes(self):
        made = course(10, 1, [[(2, 3)]], 2, [(0, 1, 2, 1)])
        self.assertEqual(arrivals(made, 0, 1, range(10)), [2, 6, 6, 6, 6, 7, 8, 9, 10, 11])

    def test_a_free_minute_alone(self):
        spans = [(1, 2), (4, 2)]
        self.assertEqual(arrivals(course(8, 2, [spans], 2, [(0, 1, 2, 1)]), 0, 1, (0, 2, 5, 6)), [7, 7, 7, 8])
        self.assertEqual(arrivals(course(8, 1, [spans], 2, [(0, 1, 2, 1)]), 0, 1, (0, 2, 3, 5)), [4, 4, 7, 7])

    def test_a_gap_at_the_days_end(self):
        made = course(6, 8, [[(0, 5)]], 2, [(0, 1, 4, 1)])
        self.assertEqual(arrivals(made, 0, 1, range(6)), [7, 7, 7, 7, 8, 9])

    def test_runners_up_to_the_days_end(self):
        # Behind the day cars may cross at once.
        made = course(6, 8, [[(3, 3)]], 2, [(0, 1, 4, 1)])
        self.assertEqual(arrivals(made, 0, 1, range(6)), [8, 8, 8, 8, 8, 9])

    def test_at_the_crossing_behind_the_day(self):
        made = course(6, 8, [[(0, 6)]], 2, [(0, 1, 100, 1)])
        self.assertEqual(arrivals(made, 0, 1, range(6)), list(range(100, 106)))

    def test_spans_that_overlap(self):
        made = course(12, 1, [[(2, 3), (4, 4), (3, 1)]], 2, [(0, 1, 2, 1)])
        self.assertEqual(arrivals(made, 0, 1, (0, 1, 6, 7)), [2, 9, 9, 9])

    def test_a_crossing_without_spans(self):
        made = course(12, 8, [[]], 2, [(0, 1, 5, 1)])
        self.assertEqual(arrivals(made, 0, 1, (0, 7, 11)), [5, 12, 16])

    def test_each_over_its_own_crossing(self):
        each = [[(0, 3)], [(0, 7)], []]
        made = course(10, 1, each, 4, [(0, 1, 2, 1), (0, 2, 2, 2), (0, 3, 2, 3)])
        self.assertEqual(last(made + [everywhere(0, 0)]), [4, 1, 5, 9, 3])


class SeveralRoads(unittest.TestCase):
    def test_one_behind_another(self):
        made = course(30, 1, [[(4, 6)], [(13, 3)]], 3, [(0, 1, 4, 1), (1, 2, 5, 2)])
        # Over the first in minute 10, at place 1 in 12, at the second in 14, over it in 16, at place 2 in 19.
        self.assertEqual(last(made + [arrive(0, 2, 3)]), [19])
        # The other way at the second in 5, at place 1 in 8, at the first in 10, at place 0 in 12.
        self.assertEqual(last(made + [arrive(2, 0, 3)]), [12])

    def test_the_way_round_may_be_sooner(self):
        made = course(20, 1, [[(0, 12)]], 3, [(0, 2, 2, 1), (0, 1, 5, 0), (1, 2, 4, 0)])
        self.assertEqual(arrivals(made, 0, 2, (0, 3, 4, 5, 11)), [9, 12, 13, 13, 13])

    def test_more_roads_may_be_sooner_than_fewer(self):
        made = course(10, 1, [], 5, [(0, 4, 9, 0), (0, 1, 2, 0), (1, 2, 2, 0), (2, 3, 2, 0), (3, 4, 2, 0)])
        self.assertEqual(last(made + [arrive(0, 4, 1)]), [9])

    def test_whatever_the_order_in_which_roads_are_made(self):
        chain = [(0, 1, 1, 0), (2, 1, 2, 0), (2, 3, 3, 0), (4, 3, 4, 0), (4, 5, 5, 0), (0, 5, 99, 0)]
        for roads in itertools.permutations(chain):
            self.assertEqual(last(course(10, 1, [], 6, roads) + [everywhere(0, 2)]), [6, 3, 4, 6, 9, 13, 18])

    def test_two_roads_between_the_same_places(self):
        # Over none it takes 7; over the crossing 2, or more with a wait.
        made = course(20, 1, [[(1, 9)]], 2, [(0, 1, 7, 0), (1, 0, 2, 1)])
        for p, q in ((0, 1), (1, 0)):
            self.assertEqual(arrivals(made, p, q, (0, 3, 4, 5, 9, 10)), [7, 10, 11, 11, 11, 12])

    def test_two_roads_over_the_same_crossing(self):
        made = course(20, 1, [[(1, 9)]], 3, [(0, 1, 2, 1), (1, 2, 4, 1)])
        self.assertEqual(last(made + [everywhere(0, 2)]), [3, 3, 12, 16])

    def test_behind_the_day(self):
        made = course(3, 1, [[(0, 3)]], 3, [(0, 1, 100, 0), (1, 2, 51, 1)])
        self.assertEqual(last(made + [arrive(0, 2, 2)]), [153])

    def test_as_many_as_there_may_be(self):
        roads = [(p, (p + 1) % 6, 100, 1 + p) for p in range(6)] * 2
        made = course(120, 1, [[(0, 120)]] * 6, 6, roads)
        # Over the first crossing in minute 120, all others are free behind the day.
        self.assertEqual(last(made + [everywhere(0, 0)]), [6, 1, 171, 271, 371, 271, 171])


class Arrive(unittest.TestCase):
    def test_ones_own_place(self):
        made = course(10, 1, [[(0, 10)]], 2, [(0, 1, 4, 1)])
        for p in range(2):
            self.assertEqual(arrivals(made, p, p, range(10)), list(range(10)))

    def test_a_place_without_roads(self):
        made = course(10, 1, [], 3, [(0, 1, 4, 0)])
        self.assertEqual([last(made + [arrive(p, q, 3)]) for p, q in ((0, 2), (2, 0), (1, 2), (2, 2))],
                         [[NO_WAY], [NO_WAY], [NO_WAY], [3]])

    def test_no_way_though_both_have_roads(self):
        made = course(10, 1, [], 4, [(0, 1, 4, 0), (2, 3, 4, 0)])
        self.assertEqual([last(made + [arrive(p, q, 0)]) for p, q in ((0, 2), (3, 1), (0, 1), (3, 2))],
                         [[NO_WAY], [NO_WAY], [4], [4]])

    def test_leaving_in_the_last_minute(self):
        made = course(10, 1, [[(8, 2)]], 2, [(0, 1, 1, 1)])
        self.assertEqual(last(made + [arrive(0, 1, 9)]), [11])
        self.assertEqual(last(made + [arrive(0, 1, 10)]), [WRONG])


class All(unittest.TestCase):
    def test_ordinary(self):
        made = course(20, 1, [[(3, 5)]], 4, [(0, 1, 4, 0), (1, 2, 2, 1)])
        self.assertEqual(last(made + [everywhere(0, 0)]), [4, 1, 5, 10, 0])
        self.assertEqual(last(made + [everywhere(1, 2)]), [4, 7, 3, 10, 0])
        self.assertEqual(last(made + [everywhere(2, 7)]), [4, 14, 10, 8, 0])
        self.assertEqual(last(made + [everywhere(3, 19)]), [4, 0, 0, 0, 20])

    def test_a_place_alone(self):
        self.assertEqual(last([begin(10, 1), place(), everywhere(0, 0)]), [1, 1])
        self.assertEqual(last([begin(10, 1), place(), everywhere(0, 9)]), [1, 10])

    def test_six_places_without_roads(self):
        self.assertEqual(last([begin(10, 1)] + [place()] * 6 + [everywhere(3, 4)]), [6, 0, 0, 0, 5, 0, 0])

    def test_places_made_later(self):
        made = course(10, 1, [], 2, [(0, 1, 4, 0)])
        self.assertEqual(last(made + [place(), everywhere(0, 1)]), [3, 2, 6, 0])


class Latest(unittest.TestCase):
    def test_over_none(self):
        made = course(10, 1, [], 2, [(0, 1, 4, 0)])
        self.assertEqual(told(made + [latest(0, 1, t) for t in range(10)])[-10:],
                         [[NO_WAY]] * 4 + [[t] for t in range(6)])

    def test_over_a_crossing(self):
        # Who leaves from minute 5 to 9 crosses in minute 10.
        made = course(20, 1, [[(6, 4)]], 2, [(0, 1, 3, 1)])
        self.assertEqual(answered(made, [latest(0, 1, t) for t in (3, 7, 8, 11, 12, 13)]), [0, 4, 4, 4, 9, 10])

    def test_in_no_minute(self):
        made = course(20, 1, [[(0, 20)]], 3, [(0, 1, 2, 1)])
        for t in (0, 19):
            self.assertEqual(last(made + [latest(0, 1, t)]), [NO_WAY])
            self.assertEqual(last(made + [latest(0, 2, t)]), [NO_WAY])

    def test_just_in_minute_0(self):
        made = course(20, 1, [], 2, [(0, 1, 19, 0)])
        self.assertEqual(last(made + [latest(0, 1, 19)]), [0])
        self.assertEqual(last(made + [latest(0, 1, 18)]), [NO_WAY])

    def test_ones_own_place(self):
        made = course(10, 1, [[(0, 10)]], 2, [(0, 1, 4, 1)])
        for p in range(2):
            self.assertEqual(answered(made, [latest(p, p, t) for t in range(10)]), list(range(10)))

    def test_a_place_without_roads(self):
        made = course(10, 1, [], 3, [(0, 1, 4, 0)])
        self.assertEqual(answered(made, [latest(0, 2, 9), latest(2, 0, 9), latest(2, 2, 9)]), [NO_WAY, NO_WAY, 9])

    def test_in_the_last_minute_or_sooner(self):
        made = course(10, 1, [[(8, 1)]], 2, [(0, 1, 1, 1)])
        self.assertEqual(answered(made, [latest(0, 1, t) for t in (7, 8, 9)]), [6, 7, 7])

    def test_from_the_one_to_the_other(self):
        # From place 0 one is at the crossing 1 minute later, from place 2 it's 3.
        made = course(20, 1, [[(6, 4)]], 3, [(0, 1, 3, 1), (1, 2, 2, 0)])
        self.assertEqual(answered(made, [latest(0, 2, 14), latest(2, 0, 14), latest(2, 0, 12)]), [9, 9, 7])


class Worst(unittest.TestCase):
    def test_of_several_the_first(self):
        self.assertEqual(last(course(10, 1, [], 2, [(0, 1, 4, 0)]) + [worst(0, 1)]), [0, 4])
        # Two waits of the same length.
        made = course(20, 1, [[(3, 4), (10, 4)]], 2, [(0, 1, 2, 1)])
        self.assertEqual(last(made + [worst(0, 1)]), [2, 6])

    def test_the_longest_wait(self):
        made = course(30, 1, [[(3, 2), (10, 6), (20, 4)]], 2, [(0, 1, 5, 1)])
        self.assertEqual(last(made + [worst(0, 1)]), [8, 11])
        self.assertEqual(last(made + [worst(1, 0)]), [8, 11])

    def test_in_minute_0(self):
        # One is at the crossing in minute 2, where it has been shut for 2 minutes.
        made = course(20, 1, [[(0, 9)]], 2, [(0, 1, 4, 1)])
        self.assertEqual(last(made + [worst(0, 1)]), [0, 11])

    def test_in_the_last_minute(self):
        made = course(10, 1, [[(9, 1)]], 2, [(0, 1, 1, 1)])
        self.assertEqual(last(made + [worst(0, 1)]), [9, 2])

    def test_with_a_way_round(self):
        made = course(30, 1, [[(10, 15)]], 2, [(0, 1, 2, 1), (0, 1, 8, 0)])
        self.assertEqual(last(made + [worst(0, 1)]), [9, 8])

    def test_ones_own_place(self):
        made = course(10, 1, [[(0, 10)]], 3, [(0, 1, 4, 1)])
        for p in range(3):
            self.assertEqual(last(made + [worst(p, p)]), [0, 0])

    def test_no_way(self):
        made = course(10, 1, [], 4, [(0, 1, 4, 0), (2, 3, 4, 0)])
        for p, q in ((0, 2), (2, 0), (1, 3)):
            self.assertEqual(last(made + [worst(p, q)]), [NO_WAY])

    def test_it_may_reach_behind_the_day(self):
        made = course(120, 8, [[(0, 120)]], 2, [(0, 1, 100, 1)])
        self.assertEqual(last(made + [worst(0, 1)]), [0, 170])


class Changed(unittest.TestCase):
    made = course(16, 1, [[(0, 2), (4, 3)]], 2, [(0, 1, 2, 1)])
    asked = [arrive(0, 1, 0), everywhere(1, 0), latest(0, 1, 9), worst(0, 1)]

    def test_as_made(self):
        self.assertEqual(told(self.made + self.asked)[-4:], [[3], [2, 4, 1], [7], [3, 5]])

    def test_a_gap_that_is_changed_later(self):
        # Minutes 2 and 3 are too few for a gap of 3.
        self.assertEqual(told(self.made + [gap(3)] + self.asked)[-4:], [[8], [2, 9, 1], [7], [0, 8]])
        self.assertEqual(told(self.made + [gap(3), gap(2)] + self.asked)[-4:], [[3], [2, 4, 1], [7], [3, 5]])

    def test_spans_that_are_cleared_later(self):
        self.assertEqual(told(self.made + [clear(0)] + self.asked)[-4:], [[2], [2, 3, 1], [7], [0, 2]])
        self.assertEqual(told(self.made + [clear(0), span(0, 0, 9)] + self.asked)[-4:],
                         [[10], [2, 11, 1], [NO_WAY], [0, 10]])

    def test_a_road_that_is_made_later(self):
        self.assertEqual(told(self.made + [road(0, 1, 1, 0)] + self.asked)[-4:], [[1], [2, 2, 1], [8], [0, 1]])

    def test_a_begin_on_an_object_that_has_begun(self):
        self.assertEqual(told(self.made + [begin(16, 1)] + self.asked)[-4:], [[NO_SUCH]] * 4)
        self.assertEqual(told(self.made + [begin(16, 1), place(), place()] + self.asked)[-4:],
                         [[NO_WAY], [2, 0, 1], [NO_WAY], [NO_WAY]])


class Refusals(unittest.TestCase):
    made = course(10, 1, [[]], 3, [(0, 1, 4, 1)])

    def test_a_day_without_places(self):
        for call in (arrive(0, 0, 0), everywhere(0, 0), latest(0, 0, 0), worst(0, 0)):
            self.assertEqual(last([begin(10, 1), call]), [NO_SUCH])

    def test_no_such_place(self):
        for n in (3, 4, HUGE):
            for call in (arrive(n, 0, 0), arrive(0, n, 0), arrive(n, n, 0), everywhere(n, 0), latest(n, 0, 9),
                         latest(0, n, 9), latest(n, n, 9), worst(n, 0), worst(0, n), worst(n, n)):
                self.assertEqual(last(self.made + [call]), [NO_SUCH])

    def test_not_of_the_day(self):
        for t in (10, 11, HUGE):
            for call in (arrive(0, 1, t), arrive(1, 1, t), everywhere(0, t), latest(0, 1, t), latest(1, 1, t)):
                self.assertEqual(last(self.made + [call]), [WRONG])

    def test_the_last_minute_is_of_the_day(self):
        self.assertEqual(told(self.made + [arrive(0, 1, 9), everywhere(0, 9), latest(0, 1, 9)])[-3:],
                         [[13], [3, 10, 14, 0], [5]])

    def test_no_way(self):
        for call in (arrive(0, 2, 0), arrive(2, 0, 9), latest(0, 2, 9), latest(2, 1, 0), worst(0, 2), worst(2, 1)):
            self.assertEqual(last(self.made + [call]), [NO_WAY])

    def test_which_of_several(self):
        for t in (10, HUGE):
            for call in (arrive(3, 0, t), arrive(0, 3, t), everywhere(3, t), latest(3, 0, t), latest(0, 3, t)):
                self.assertEqual(last(self.made + [call]), [NO_SUCH])
            for call in (arrive(0, 2, t), latest(0, 2, t), arrive(2, 0, t), latest(2, 0, t)):
                self.assertEqual(last(self.made + [call]), [WRONG])


class Model:
    """A small day with its roads, gone minute by minute as the words say it."""

    def __init__(self, needed, frees, places, roads):
        self.needed = needed
        self.frees = frees
        self.minutes = len(frees[0])
        self.places = places
        self.roads = roads

    def made(self):
        return course(self.minutes, self.needed, [spans_of(free) for free in self.frees], self.places, self.roads)

    def gone(self, taken, t):
        """When one is at the other end of a road, left in minute t."""
        length, over = taken[2], taken[3]
        if over == 0:
            return t + length
        minute = t + length // 2
        while minute < self.minutes and not may_cross(self.frees[over - 1], self.needed, minute):
            minute += 1
        return minute + (length - length // 2)

    def every_way(self, p, t, passed=()):
        """Each place that one comes to, and when, by every way that goes to no place twice."""
        found = [(p, t)]
        for taken in self.roads:
            for here, there in (taken[:2], taken[1::-1]):
                if here == p and there not in passed:
                    found += self.every_way(there, self.gone(taken, t), passed + (p,))
        return found

    def earliest(self, p, t):
        soonest = {}
        for there, minute in self.every_way(p, t):
            soonest[there] = min(minute, soonest.get(there, minute))
        return soonest

    def with_stays(self, p, t, behind):
        """Each place and minute up to behind that one can be at, staying at places as long as one likes."""
        reached = {(p, t)}
        left = [(p, t)]
        while left:
            at, minute = left.pop()
            further = [(at, minute + 1)]
            for taken in self.roads:
                for here, there in (taken[:2], taken[1::-1]):
                    if here == at:
                        further.append((there, self.gone(taken, minute)))
            for step in further:
                if step not in reached and step[1] <= behind:
                    reached.add(step)
                    left.append(step)
        return reached


class NoWayIsSooner(unittest.TestCase):
    def check(self, model):
        made = model.made()
        places, minutes = range(model.places), range(model.minutes)
        for p in places:
            soonest = [model.earliest(p, t) for t in minutes]
            given = told(made + [everywhere(p, t) for t in minutes])[len(made):]
            self.assertEqual(given, [[model.places] + [soonest[t].get(q, -1) + 1 for q in places] for t in minutes])
            for q in places:
                self.check_pair(made, p, q, [soonest[t].get(q, NO_WAY) for t in minutes])

    def check_pair(self, made, p, q, soonest):
        minutes = range(len(soonest))
        given = arrivals(made, p, q, minutes)
        self.assertEqual(given, soonest)
        # Who leaves later never comes sooner.
        self.assertEqual(given, sorted(given))
        lates = [max([at for at in minutes if 0 <= soonest[at] <= t], default=NO_WAY) for t in minutes]
        self.assertEqual(answered(made, [latest(p, q, t) for t in minutes]), lates)
        if soonest[0] == NO_WAY:
            self.assertEqual(last(made + [worst(p, q)]), [NO_WAY])
        else:
            taken = [soonest[t] - t for t in minutes]
            self.assertEqual(last(made + [worst(p, q)]), [taken.index(max(taken)), max(taken)])

    def check_stays(self, model):
        """Nor is it sooner to stay at places, or to come to them twice."""
        made = model.made()
        for p in range(model.places):
            for t in range(model.minutes):
                given = last(made + [everywhere(p, t)])[1:]
                reached = model.with_stays(p, t, max(given))
                for q in range(model.places):
                    soonest = min([minute for at, minute in reached if at == q], default=-1)
                    self.assertEqual(given[q], soonest + 1)

    def test_every_day_with_one_road(self):
        for minutes in (1, 2, 5):
            for pattern in range(2 ** minutes):
                free = [pattern >> minute & 1 == 0 for minute in range(minutes)]
                for needed in (1, 2, 3):
                    for length in (1, 2, 3, 5):
                        self.check(Model(needed, [free], 2, [(0, 1, length, 1)]))

    def test_every_three_roads_between_three_places(self):
        free = [[True, False, False, True, False, True], [False, True, True, False, False, False]]
        choices = [(0, 1, 3, 1), (0, 1, 2, 0), (2, 1, 1, 2), (1, 2, 5, 1), (2, 0, 4, 0), (0, 2, 2, 2)]
        for roads in itertools.product(choices, repeat=3):
            self.check(Model(2, free, 3, list(roads)))

    def small_day(self, seed):
        source = random.Random(seed)
        minutes = source.randint(4, 12)
        frees = [[source.randrange(3) > 0 for minute in range(minutes)] for c in range(source.randint(1, 3))]
        places = source.randint(2, 5)
        roads = []
        for r in range(source.randint(1, 8)):
            p, q = source.sample(range(places), 2)
            roads.append((p, q, source.randint(1, 7), source.randint(0, len(frees))))
        return Model(source.randint(1, 4), frees, places, roads)

    def test_many_small_days(self):
        for seed in range(120):
            self.check(self.small_day(seed))

    def test_many_small_days_with_stays(self):
        for seed in range(120, 200):
            self.check_stays(self.small_day(seed))


if __name__ == "__main__":
    unittest.main()
