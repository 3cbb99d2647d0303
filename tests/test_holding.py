"""Point 2, of it: longest, holds, least; and what holds of them, b."""

import itertools
import unittest

from lines import (
    HUGE, NO_SUCH, WRONG, answered, at_crossing, begin, clear, crossing, every_day, gap, holds, last, least, longest,
    shuts, span, spans_of, told,
)


def hold_rows(made, mosts):
    return told(made + [holds(0, most) for most in mosts])[len(made):]


class Longest(unittest.TestCase):
    def test_ordinary(self):
        self.assertEqual(last(at_crossing(20, 2, [(1, 2), (6, 5), (15, 3)]) + [longest(0)]), [5])

    def test_wherever_it_lies(self):
        for spans in ([(0, 4), (6, 1)], [(0, 1), (4, 4), (12, 2)], [(2, 1), (5, 2), (16, 4)]):
            self.assertEqual(last(at_crossing(20, 1, spans) + [longest(0)]), [4])

    def test_a_crossing_without_spans(self):
        for needed in (1, 8):
            self.assertEqual(last(at_crossing(20, needed, []) + [longest(0)]), [0])

    def test_a_shut_is_more_than_its_runners(self):
        # Minutes 0 and 3 are free alone, and a gap needs 2.
        self.assertEqual(last(at_crossing(9, 2, [(1, 2), (4, 2)]) + [longest(0)]), [6])
        self.assertEqual(last(at_crossing(9, 1, [(1, 2), (4, 2)]) + [longest(0)]), [2])

    def test_spans_that_overlap(self):
        self.assertEqual(last(at_crossing(20, 3, [(3, 6), (5, 8), (4, 1)]) + [longest(0)]), [10])

    def test_a_gap_at_the_days_end(self):
        self.assertEqual(last(at_crossing(6, 8, [(0, 5)]) + [longest(0)]), [5])

    def test_the_whole_day(self):
        for minutes in (1, 120):
            self.assertEqual(last(at_crossing(minutes, 1, [(0, minutes)]) + [longest(0)]), [minutes])


class Holds(unittest.TestCase):
    def test_ordinary(self):
        # Shut from 2 on for 12 minutes: 3 closed, 2 held, 3 closed, 2 held, 2 closed.
        self.assertEqual(last(at_crossing(20, 2, [(2, 12)]) + [holds(0, 3)]), [2, 5, 10])

    def test_by_every_most(self):
        rows = hold_rows(at_crossing(12, 2, [(1, 9)]), range(1, 11))
        # Minute 0 is free alone: shut from 0 on for 10 minutes.
        self.assertEqual(rows, [[3, 1, 4, 7], [2, 2, 6], [2, 3, 8], [1, 4], [1, 5], [1, 6], [1, 7], [1, 8], [1, 9], [0]])

    def test_a_shut_of_just_the_most(self):
        made = at_crossing(20, 1, [(4, 7)])
        self.assertEqual(hold_rows(made, (6, 7, 8)), [[1, 10], [0], [0]])

    def test_what_is_left_is_just_the_most(self):
        # 3 closed, 2 held, 3 closed: one hold; with a minute more a second one.
        self.assertEqual(last(at_crossing(20, 2, [(2, 8)]) + [holds(0, 3)]), [1, 5])
        self.assertEqual(last(at_crossing(20, 2, [(2, 9)]) + [holds(0, 3)]), [2, 5, 10])

    def test_a_hold_that_reaches_behind_its_shut(self):
        self.assertEqual(last(at_crossing(20, 8, [(8, 4)]) + [holds(0, 3)]), [1, 11])
        # The next shut counts from its own first minute.
        self.assertEqual(last(at_crossing(20, 2, [(4, 4), (10, 4)]) + [holds(0, 3)]), [2, 7, 13])
        self.assertEqual(last(at_crossing(30, 3, [(3, 5), (11, 5)]) + [holds(0, 4)]), [2, 7, 15])
        self.assertEqual(last(at_crossing(30, 1, [(3, 5), (9, 2)]) + [holds(0, 1)]), [3, 4, 6, 10])

    def test_a_hold_that_reaches_behind_the_day(self):
        self.assertEqual(last(at_crossing(6, 8, [(0, 6)]) + [holds(0, 5)]), [1, 5])
        self.assertEqual(last(at_crossing(6, 8, [(0, 6)]) + [holds(0, 1)]), [1, 1])

    def test_a_gap_of_1(self):
        self.assertEqual(last(at_crossing(9, 1, [(0, 9)]) + [holds(0, 1)]), [4, 1, 3, 5, 7])
        self.assertEqual(last(at_crossing(9, 1, [(0, 9)]) + [holds(0, 2)]), [3, 2, 5, 8])

    def test_a_free_minute_alone(self):
        # It lies in the shut, and a hold is told by how long that is shut, not by where runners are.
        self.assertEqual(last(at_crossing(12, 2, [(2, 3), (6, 4)]) + [holds(0, 3)]), [1, 5])

    def test_spans_that_overlap(self):
        self.assertEqual(last(at_crossing(20, 1, [(2, 5), (4, 6), (3, 1)]) + [holds(0, 4)]), [1, 6])

    def test_several_shuts(self):
        self.assertEqual(last(at_crossing(30, 1, [(20, 7), (2, 2), (8, 5)]) + [holds(0, 2)]), [3, 10, 22, 25])

    def test_never_shut(self):
        self.assertEqual(hold_rows(at_crossing(20, 1, []), (1, 20, 120)), [[0]] * 3)

    def test_a_most_of_more_than_the_day(self):
        self.assertEqual(hold_rows(at_crossing(5, 1, [(0, 5)]), (4, 5, 6, 120)), [[1, 4], [0], [0], [0]])

    def test_the_longest_day(self):
        made = at_crossing(120, 1, [(0, 120)])
        self.assertEqual(last(made + [holds(0, 1)]), [60] + list(range(1, 120, 2)))
        self.assertEqual(hold_rows(made, (119, 120)), [[1, 119], [0]])


class Least(unittest.TestCase):
    def test_ordinary(self):
        made = at_crossing(12, 2, [(1, 9)])
        self.assertEqual(answered(made, [least(0, n) for n in range(6)]), [10, 4, 2, 1, 1, 1])

    def test_without_holds_it_is_the_longest_shut(self):
        self.assertEqual(last(at_crossing(30, 1, [(2, 3), (10, 7), (20, 5)]) + [least(0, 0)]), [7])

    def test_of_all_its_shuts_together(self):
        made = at_crossing(30, 1, [(2, 3), (10, 7), (20, 5)])
        self.assertEqual(answered(made, [holds(0, most) for most in range(1, 8)]), [6, 4, 2, 2, 1, 1, 0])
        self.assertEqual(answered(made, [least(0, n) for n in range(8)]), [7, 5, 3, 3, 2, 2, 1, 1])

    def test_never_shut(self):
        self.assertEqual(answered(at_crossing(20, 3, []), [least(0, 0), least(0, 1), least(0, HUGE)]), [1, 1, 1])

    def test_the_days_minutes(self):
        for minutes in (1, 2, 120):
            self.assertEqual(last(at_crossing(minutes, 8, [(0, minutes)]) + [least(0, 0)]), [minutes])

    def test_more_holds_than_there_are_minutes(self):
        for n in (120, 121, HUGE):
            self.assertEqual(last(at_crossing(120, 1, [(0, 120)]) + [least(0, n)]), [1])

    def test_one_fewer_than_enough(self):
        made = at_crossing(120, 1, [(0, 120)])
        self.assertEqual(answered(made, [least(0, 60), least(0, 59), least(0, 40), least(0, 39)]), [1, 2, 2, 3])


class Changed(unittest.TestCase):
    made = at_crossing(14, 1, [(1, 3), (5, 6)])
    asked = [longest(0), holds(0, 4), least(0, 0), least(0, 1)]

    def test_as_made(self):
        self.assertEqual(told(self.made + self.asked)[-4:], [[6], [1, 9], [6], [3]])

    def test_a_gap_that_is_changed_later(self):
        # Minutes 0 and 4 are free alone: shut from 0 on for 11 minutes, and a hold is longer as well.
        self.assertEqual(told(self.made + [gap(2)] + self.asked)[-4:], [[11], [2, 4, 10], [11], [5]])
        self.assertEqual(told(self.made + [gap(3)] + self.asked)[-4:], [[11], [1, 4], [11], [4]])
        self.assertEqual(told(self.made + [gap(3), gap(1)] + self.asked)[-4:], [[6], [1, 9], [6], [3]])

    def test_spans_that_are_cleared_later(self):
        self.assertEqual(told(self.made + [clear(0)] + self.asked)[-4:], [[0], [0], [1], [1]])
        self.assertEqual(told(self.made + [clear(0), span(0, 2, 5)] + self.asked)[-4:], [[5], [1, 6], [5], [2]])

    def test_a_begin_on_an_object_that_has_begun(self):
        self.assertEqual(told(self.made + [begin(9, 2)] + self.asked)[-4:], [[NO_SUCH]] * 4)
        self.assertEqual(told(self.made + [begin(9, 2), crossing()] + self.asked)[-4:], [[0], [0], [1], [1]])

    def test_each_crossing_by_itself(self):
        made = self.made + [crossing(), crossing(), span(2, 0, 14)]
        self.assertEqual(answered(made, [longest(c) for c in range(3)]), [6, 0, 14])
        self.assertEqual(told(made + [holds(c, 6) for c in range(3)])[-3:], [[0], [0], [2, 6, 13]])
        self.assertEqual(answered(made, [least(c, 1) for c in range(3)]), [3, 1, 7])


class Refusals(unittest.TestCase):
    made = [begin(10, 2), crossing(), crossing(), span(1, 0, 9)]

    def test_no_such_crossing(self):
        self.assertEqual(told([begin(10, 2), longest(0), holds(0, 1), least(0, 0)])[1:], [[NO_SUCH]] * 3)
        for c in (2, 3, HUGE):
            for call in (longest(c), holds(c, 1), least(c, 0), least(c, HUGE)):
                self.assertEqual(last(self.made + [call]), [NO_SUCH])

    def test_wrong_most(self):
        for most in (0, 121, 122, HUGE):
            self.assertEqual(last(self.made + [holds(1, most)]), [WRONG])

    def test_least_and_greatest_most_are_taken(self):
        self.assertEqual(hold_rows(self.made, (1, 120)), [[0], [0]])
        self.assertEqual(told(self.made + [holds(1, 1), holds(1, 120)])[-2:], [[3, 1, 4, 7], [0]])

    def test_no_such_crossing_is_told_first(self):
        for most in (0, 121, HUGE):
            for c in (2, HUGE):
                self.assertEqual(last(self.made + [holds(c, most)]), [NO_SUCH])


def lie_closed(length, needed, begun):
    """How many minutes of a shut at most lie closed, one behind another, with holds begun in these of its minutes."""
    most = run = 0
    for minute in range(length):
        held = any(start <= minute < start + needed for start in begun)
        run = 0 if held else run + 1
        most = max(most, run)
    return most


def fewest(length, needed, most, kept):
    """How few holds do in a shut, of every way to hold it; kept spares going through a shut twice."""
    if (length, needed, most) not in kept:
        many = 0
        while not any(lie_closed(length, needed, begun) <= most
                      for begun in itertools.combinations(range(length), many)):
            many += 1
        kept[length, needed, most] = many
    return kept[length, needed, most]


class NoFewerHoldsDo(unittest.TestCase):
    kept = {}

    def check(self, made, minutes, needed):
        flat = last(made + [shuts(0)])[1:]
        shut = list(zip(flat[::2], flat[1::2]))
        self.assertEqual(last(made + [longest(0)]), [max((length for first, length in shut), default=0)])
        taken = []
        for most, row in enumerate(hold_rows(made, range(1, minutes + 1)), start=1):
            self.assertEqual(row[0], len(row) - 1)
            self.assertEqual(row[1:], sorted(row[1:]))
            taken.append(row[0])
            for first, length in shut:
                within = [minute - first for minute in row[1:] if first <= minute < first + length]
                self.assertLessEqual(lie_closed(length, needed, within), most)
                self.assertEqual(len(within), fewest(length, needed, most, self.kept))
            self.assertEqual(row[0], sum(fewest(length, needed, most, self.kept) for first, length in shut))
        for n, told_least in enumerate(answered(made, [least(0, n) for n in range(minutes + 1)])):
            enough = [most for most in range(1, minutes + 1) if taken[most - 1] <= n]
            self.assertEqual(enough, list(range(told_least, minutes + 1)))

    def test_every_shut_of_up_to_12_minutes(self):
        for length in range(1, 13):
            for needed in range(1, 9):
                self.check(at_crossing(length, needed, [(0, length)]), length, needed)
                self.check(at_crossing(length + 11, needed, [(8, length)]), length + 11, needed)

    def test_every_day_of_up_to_8_minutes(self):
        for minutes in range(1, 9):
            for free in every_day(minutes):
                for needed in (1, 2, 3, 4):
                    self.check(at_crossing(minutes, needed, spans_of(free)), minutes, needed)


if __name__ == "__main__":
    unittest.main()
