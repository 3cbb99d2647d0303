"""Point 2, of it: runs, open, next, shuts."""

import unittest

from lines import (
    HUGE, NO_SUCH, WRONG, answered, at_crossing, begin, crossable, crossing, every_day, following, last, may_cross, row,
    runs, shuts, span, spans_of,
)


class Corners(unittest.TestCase):
    def check(self, minutes, needed, spans, runners, cars, nexts, shut):
        made = at_crossing(minutes, needed, spans)
        self.assertEqual(answered(made, row(runs, minutes)), runners)
        self.assertEqual(answered(made, row(crossable, minutes)), cars)
        self.assertEqual(answered(made, row(following, minutes)), nexts)
        self.assertEqual(last(made + [shuts(0)]), shut)

    def test_ordinary(self):
        self.check(10, 2, [(2, 3), (7, 1)],
                   [0, 0, 1, 1, 1, 0, 0, 1, 0, 0],
                   [1, 1, 0, 0, 0, 1, 1, 0, 1, 1],
                   [0, 1, 5, 5, 5, 5, 6, 8, 8, 9],
                   [2, 2, 3, 7, 1])

    def test_a_free_minute_alone(self):
        self.check(8, 2, [(1, 2), (4, 2)],
                   [0, 1, 1, 0, 1, 1, 0, 0],
                   [0, 0, 0, 0, 0, 0, 1, 1],
                   [6, 6, 6, 6, 6, 6, 6, 7],
                   [1, 0, 6])

    def test_a_free_minute_alone_at_the_beginning(self):
        # Nothing is ahead of minute 0: a gap can't begin there.
        self.check(4, 2, [(1, 1)], [0, 1, 0, 0], [0, 0, 1, 1], [2, 2, 2, 3], [1, 0, 2])

    def test_a_gap_at_the_days_end(self):
        # The last minute is free alone, but all minutes behind the day are free with it.
        for needed in range(2, 9):
            self.check(5, needed, [(0, 4)], [1, 1, 1, 1, 0], [0, 0, 0, 0, 1], [4, 4, 4, 4, 4], [1, 0, 4])

    def test_runners_up_to_the_days_end(self):
        self.check(5, 1, [(3, 2)], [0, 0, 0, 1, 1], [1, 1, 1, 0, 0], [0, 1, 2, 5, 5], [1, 3, 2])
        self.check(5, 4, [(3, 2)], [0, 0, 0, 1, 1], [0, 0, 0, 0, 0], [5, 5, 5, 5, 5], [1, 0, 5])

    def test_the_whole_day_is_shut(self):
        self.check(4, 1, [(0, 4)], [1, 1, 1, 1], [0, 0, 0, 0], [4, 4, 4, 4], [1, 0, 4])

    def test_spans_that_overlap(self):
        self.check(9, 2, [(1, 4), (3, 3), (2, 1)],
                   [0, 1, 1, 1, 1, 1, 0, 0, 0],
                   [0, 0, 0, 0, 0, 0, 1, 1, 1],
                   [6, 6, 6, 6, 6, 6, 6, 7, 8],
                   [1, 0, 6])

    def test_spans_that_touch_or_are_alike(self):
        self.check(6, 1, [(3, 1), (1, 2), (1, 2)],
                   [0, 1, 1, 1, 0, 0], [1, 0, 0, 0, 1, 1], [0, 4, 4, 4, 4, 5], [1, 1, 3])

    def test_spans_that_are_not_rising(self):
        self.check(7, 1, [(5, 1), (1, 1), (3, 1)],
                   [0, 1, 0, 1, 0, 1, 0], [1, 0, 1, 0, 1, 0, 1], [0, 2, 2, 4, 4, 6, 6], [3, 1, 1, 3, 1, 5, 1])

    def test_never_shut(self):
        for needed in range(1, 9):
            self.check(4, needed, [], [0] * 4, [1] * 4, [0, 1, 2, 3], [0])

    def test_a_gap_of_1(self):
        self.check(6, 1, [(1, 1), (3, 2)],
                   [0, 1, 0, 1, 1, 0], [1, 0, 1, 0, 0, 1], [0, 2, 2, 5, 5, 5], [2, 1, 1, 3, 2])

    def test_a_gap_just_long_enough(self):
        made = [(0, 1), (9, 1)]
        for needed in range(1, 9):
            self.assertEqual(last(at_crossing(10, needed, made) + [shuts(0)]), [2, 0, 1, 9, 1])
        made = [(0, 1), (8, 2)]
        self.assertEqual(last(at_crossing(10, 7, made) + [shuts(0)]), [2, 0, 1, 8, 2])
        self.assertEqual(last(at_crossing(10, 8, made) + [shuts(0)]), [1, 0, 10])

    def test_a_day_of_one_minute(self):
        for needed in (1, 8):
            self.check(1, needed, [], [0], [1], [0], [0])
            self.check(1, needed, [(0, 1)], [1], [0], [1], [1, 0, 1])

    def test_the_longest_day(self):
        made = at_crossing(120, 8, [(0, 1), (10, 20), (37, 3), (119, 1)])
        self.assertEqual(last(made + [shuts(0)]), [3, 0, 1, 10, 30, 119, 1])
        self.assertEqual(answered(made, [following(0, t) for t in (0, 1, 9, 10, 39, 40, 118, 119)]),
                         [1, 1, 9, 40, 40, 40, 118, 120])


class EachCrossingByItself(unittest.TestCase):
    made = [begin(6, 2), crossing(), crossing(), crossing(), span(0, 0, 2), span(2, 3, 3)]

    def test_shuts(self):
        self.assertEqual([last(self.made + [shuts(c)]) for c in range(3)], [[1, 0, 2], [0], [1, 3, 3]])

    def test_minutes(self):
        asked = [(c, t) for c in range(3) for t in (0, 2, 5)]
        self.assertEqual(answered(self.made, [runs(c, t) for c, t in asked]), [1, 0, 0, 0, 0, 0, 0, 0, 1])
        self.assertEqual(answered(self.made, [crossable(c, t) for c, t in asked]), [0, 1, 1, 1, 1, 1, 1, 1, 0])
        self.assertEqual(answered(self.made, [following(c, t) for c, t in asked]), [2, 2, 5, 0, 2, 5, 0, 2, 6])


class Refusals(unittest.TestCase):
    made = [begin(10, 2), crossing(), crossing()]

    def test_no_such_crossing(self):
        for c in (2, 3, HUGE):
            for call in (runs(c, 0), crossable(c, 0), following(c, 0), shuts(c)):
                self.assertEqual(last(self.made + [call]), [NO_SUCH])

    def test_not_of_the_day(self):
        for t in (10, 11, HUGE):
            for call in (runs(1, t), crossable(1, t), following(1, t)):
                self.assertEqual(last(self.made + [call]), [WRONG])

    def test_the_last_minute_is_of_the_day(self):
        self.assertEqual(answered(self.made, [runs(1, 9), crossable(1, 9), following(1, 9)]), [0, 1, 9])

    def test_no_such_crossing_is_told_first(self):
        for call in (runs(2, 10), crossable(2, 10), following(2, 10), runs(HUGE, HUGE)):
            self.assertEqual(last(self.made + [call]), [NO_SUCH])


class AllShortDays(unittest.TestCase):
    """Each day of up to 9 minutes, with runners in any of them, and each gap, beside the words of the document."""

    def check(self, free, needed):
        minutes = len(free)
        made = at_crossing(minutes, needed, spans_of(free))
        cars = [may_cross(free, needed, minute) for minute in range(minutes)]
        self.assertEqual(answered(made, row(runs, minutes)), [0 if is_free else 1 for is_free in free])
        self.assertEqual(answered(made, row(crossable, minutes)), [1 if may else 0 for may in cars])
        nexts = [min([at for at in range(t, minutes) if cars[at]], default=minutes) for t in range(minutes)]
        self.assertEqual(answered(made, row(following, minutes)), nexts)
        firsts = [at for at in range(minutes) if not cars[at] and (at == 0 or cars[at - 1])]
        shut = [len(firsts)]
        for first in firsts:
            shut += [first, nexts[first] - first]
        self.assertEqual(last(made + [shuts(0)]), shut)

    def test_all(self):
        for minutes in range(1, 10):
            for free in every_day(minutes):
                for needed in range(1, 9):
                    self.check(free, needed)


if __name__ == "__main__":
    unittest.main()
