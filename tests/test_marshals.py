"""Point 3: marshals, duties; and what holds of them, c."""

import itertools
import random
import unittest

from lines import (
    HUGE, NOT_BEGUN, answered, begin, clear, crossable, crossing, duties, every_day, gap, last, marshals, shuts, span,
    spans_of, told,
)


def crossings(minutes, needed, each):
    """A line that makes crossings, each with these spans."""
    made = [begin(minutes, needed)] + [crossing()] * len(each)
    for c, spans in enumerate(each):
        made += [span(c, start, length) for start, length in spans]
    return made


def rows(answer):
    """The duties out of their answer: first minute, crossing, minutes, marshal."""
    return [tuple(answer[at:at + 4]) for at in range(1, len(answer), 4)]


class Marshals(unittest.TestCase):
    def test_ordinary(self):
        self.assertEqual(last(crossings(20, 1, [[(0, 5)], [(3, 5)], [(6, 5)]]) + [marshals()]), [2])
        self.assertEqual(last(crossings(20, 1, [[(0, 5)], [(3, 5)], [(4, 5)]]) + [marshals()]), [3])

    def test_a_day_without_crossings(self):
        self.assertEqual(last([begin(10, 1), marshals()]), [0])
        self.assertEqual(last([begin(1, 8), marshals()]), [0])

    def test_crossings_without_spans(self):
        self.assertEqual(last(crossings(10, 4, [[], []]) + [marshals()]), [0])

    def test_all_six(self):
        self.assertEqual(last(crossings(10, 1, [[(9, 1)]] * 6) + [marshals()]), [6])
        self.assertEqual(last(crossings(10, 1, [[(c, 1)] for c in range(6)]) + [marshals()]), [1])

    def test_one_behind_another(self):
        # The one is shut up to minute 4, the other from minute 5 on.
        self.assertEqual(last(crossings(10, 1, [[(0, 5)], [(5, 5)]]) + [marshals()]), [1])
        self.assertEqual(last(crossings(10, 1, [[(0, 6)], [(5, 5)]]) + [marshals()]), [2])

    def test_in_the_first_and_in_the_last_minute(self):
        self.assertEqual(last(crossings(10, 1, [[(0, 1)], [(0, 2)], [(5, 1)]]) + [marshals()]), [2])
        self.assertEqual(last(crossings(10, 1, [[(9, 1)], [(8, 2)], [(5, 1)]]) + [marshals()]), [2])

    def test_where_cars_may_not_cross_without_runners(self):
        # Minute 0 is free alone at both.
        self.assertEqual(last(crossings(10, 2, [[(1, 1)], [(1, 3)]]) + [marshals()]), [2])
        # Runners never pass at both at once, but at each the minute between them is free alone.
        self.assertEqual(last(crossings(10, 2, [[(0, 1), (2, 1)], [(1, 1), (3, 1)]]) + [marshals()]), [2])
        self.assertEqual(last(crossings(10, 1, [[(0, 1), (2, 1)], [(1, 1), (3, 1)]]) + [marshals()]), [1])

    def test_spans_that_overlap_count_once(self):
        self.assertEqual(last(crossings(10, 1, [[(2, 4), (3, 4), (3, 1)]]) + [marshals()]), [1])


class Duties(unittest.TestCase):
    def check(self, minutes, needed, each, given):
        self.assertEqual(last(crossings(minutes, needed, each) + [duties()]),
                         [len(given)] + [number for duty in given for number in duty])

    def test_ordinary(self):
        self.check(20, 1, [[(0, 5), (10, 3)], [(3, 9)], [(6, 2)]],
                   [(0, 0, 5, 0), (3, 1, 9, 1), (6, 2, 2, 0), (10, 0, 3, 0)])

    def test_in_the_order_in_which_they_begin(self):
        self.check(20, 1, [[(9, 1)], [(5, 1)], [(7, 1), (2, 1)]],
                   [(2, 2, 1, 0), (5, 1, 1, 0), (7, 2, 1, 0), (9, 0, 1, 0)])

    def test_of_like_ones_the_lesser_crossing(self):
        self.check(20, 1, [[(4, 6)], [(4, 1)], [(4, 9)]], [(4, 0, 6, 0), (4, 1, 1, 1), (4, 2, 9, 2)])

    def test_the_least_who_is_free(self):
        # In minute 10 marshals 0 and 2 are free, in minute 12 marshal 2 is, in minute 13 none.
        self.check(30, 1, [[(0, 8), (10, 9)], [(1, 20)], [(2, 5), (12, 4)], [(13, 1)]],
                   [(0, 0, 8, 0), (1, 1, 20, 1), (2, 2, 5, 2), (10, 0, 9, 0), (12, 2, 4, 2), (13, 3, 1, 3)])

    def test_free_in_the_minute_behind_the_last_one(self):
        self.check(20, 1, [[(0, 5)], [(5, 5)]], [(0, 0, 5, 0), (5, 1, 5, 0)])
        self.check(20, 1, [[(0, 5)], [(4, 5)]], [(0, 0, 5, 0), (4, 1, 5, 1)])

    def test_a_day_without_crossings(self):
        self.check(10, 1, [], [])

    def test_never_shut(self):
        self.check(10, 3, [[], []], [])
        self.check(10, 3, [[], [(3, 7)]], [(3, 1, 7, 0)])

    def test_a_free_minute_alone_and_a_gap_of_1(self):
        each = [[(1, 2), (4, 2)], [(4, 1)]]
        self.check(9, 2, each, [(0, 0, 6, 0), (4, 1, 1, 1)])
        self.check(9, 1, each, [(1, 0, 2, 0), (4, 0, 2, 0), (4, 1, 1, 1)])

    def test_spans_that_overlap(self):
        self.check(12, 1, [[(2, 4), (3, 6)], [(8, 1)]], [(2, 0, 7, 0), (8, 1, 1, 1)])

    def test_a_gap_at_the_days_end(self):
        self.check(6, 8, [[(0, 5)], [(0, 6)]], [(0, 0, 5, 0), (0, 1, 6, 1)])

    def test_as_many_as_there_may_be(self):
        each = [[(start, 1) for start in range(0, 12, 2)]] * 6
        self.check(12, 1, each, [(start, c, 1, c) for start in range(0, 12, 2) for c in range(6)])


class Changed(unittest.TestCase):
    made = crossings(12, 1, [[(1, 2), (6, 2)], [(4, 1), (7, 2)]])
    asked = [marshals(), duties()]

    def test_as_made(self):
        self.assertEqual(told(self.made + self.asked)[-2:],
                         [[2], [4, 1, 0, 2, 0, 4, 1, 1, 0, 6, 0, 2, 0, 7, 1, 2, 1]])

    def test_a_gap_that_is_changed_later(self):
        # Of 3: shut are 0 from minute 0 to 2 and 6 to 7, 1 from minute 4 to 8, as minutes 5 and 6 are too few there.
        self.assertEqual(told(self.made + [gap(3)] + self.asked)[-2:],
                         [[2], [3, 0, 0, 3, 0, 4, 1, 5, 0, 6, 0, 2, 1]])
        self.assertEqual(told(self.made + [gap(3), gap(1)] + self.asked)[-2:], told(self.made + self.asked)[-2:])

    def test_spans_that_are_cleared_later(self):
        self.assertEqual(told(self.made + [clear(0)] + self.asked)[-2:], [[1], [2, 4, 1, 1, 0, 7, 1, 2, 0]])
        self.assertEqual(told(self.made + [clear(0), clear(1)] + self.asked)[-2:], [[0], [0]])

    def test_a_begin_on_an_object_that_has_begun(self):
        self.assertEqual(told(self.made + [begin(5, 1)] + self.asked)[-2:], [[0], [0]])
        self.assertEqual(told(self.made + [begin(5, 1), crossing(), span(0, 4, 1)] + self.asked)[-2:],
                         [[1], [1, 4, 0, 1, 0]])

    def test_not_begun(self):
        self.assertEqual(told(self.asked + [begin(HUGE, 1)] + self.asked)[-2:], [[NOT_BEGUN]] * 2)


class AsManyAsAreClosedAtOnce(unittest.TestCase):
    def check(self, minutes, needed, frees):
        made = crossings(minutes, needed, [spans_of(free) for free in frees])
        given = rows(last(made + [duties()]))
        needs = last(made + [marshals()])[0]
        self.check_each_shut_has_one(made, len(frees), given)
        self.check_closed(made, minutes, len(frees), needs)
        self.assertEqual(sorted({duty[3] for duty in given}), list(range(needs)))
        self.assertTrue(nobody_at_two(given, [duty[3] for duty in given]))
        self.check_least(given)
        # Of every way to give them out among fewer marshals, each has somebody at two at a time.
        if needs > 0:
            for way in itertools.product(range(needs - 1), repeat=len(given)):
                self.assertFalse(nobody_at_two(given, way))

    def check_each_shut_has_one(self, made, many, given):
        found = []
        for c, answer in enumerate(told(made + [shuts(c) for c in range(many)])[len(made):]):
            found += [(answer[at], c, answer[at + 1]) for at in range(1, len(answer), 2)]
        self.assertEqual([duty[:3] for duty in given], sorted(found))

    def check_closed(self, made, minutes, many, needs):
        closed = [answered(made, [crossable(c, t) for c in range(many)]).count(0) for t in range(minutes)]
        self.assertEqual(needs, max(closed))

    def check_least(self, given):
        for at, (first, c, length, marshal) in enumerate(given):
            busy = [other[3] for other in given[:at] if other[0] + other[2] > first]
            self.assertEqual(marshal, min(set(range(7)) - set(busy)))

    def test_every_day_with_two_crossings(self):
        for needed in (1, 2):
            for frees in itertools.product(every_day(4), repeat=2):
                self.check(4, needed, frees)

    def test_every_day_with_three_crossings(self):
        for needed in (1, 2):
            for frees in itertools.product(every_day(3), repeat=3):
                self.check(3, needed, frees)

    def test_longer_days_with_more_crossings(self):
        for seed in range(150):
            source = random.Random(seed)
            minutes = source.randint(5, 10)
            free_in = source.choice((2, 3, 5))
            frees = [[source.randrange(free_in) > 0 for minute in range(minutes)] for c in range(source.randint(2, 4))]
            self.check(minutes, source.randint(2, 4), frees)


def nobody_at_two(given, way):
    """Whether, with the duties given out in this way, nobody is at two of them at a time."""
    for one, other in itertools.combinations(range(len(given)), 2):
        apart = given[one][0] + given[one][2] <= given[other][0] or given[other][0] + given[other][2] <= given[one][0]
        if way[one] == way[other] and not apart:
            return False
    return True


if __name__ == "__main__":
    unittest.main()
