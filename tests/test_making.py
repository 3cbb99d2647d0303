"""Point 1: begin, crossing, span, clear, place, road, gap."""

import unittest

from lines import (
    FULL, HUGE, NO_SUCH, WRONG, answered, at_crossing, begin, clear, crossable, crossing, following, gap, last, look,
    place, probe, road, row, runs, shuts, span, state, told,
)


class Begin(unittest.TestCase):
    def test_least_and_most_are_taken(self):
        for minutes in (1, 2, 60, 119, 120):
            for needed in (1, 2, 7, 8):
                self.assertEqual(last([begin(minutes, needed)]), [0])

    def test_wrong_minutes(self):
        for minutes in (0, 121, 122, HUGE):
            self.assertEqual(last([begin(minutes, 1)]), [WRONG])

    def test_wrong_gap(self):
        for needed in (0, 9, 10, HUGE):
            self.assertEqual(last([begin(10, needed)]), [WRONG])

    def test_both_wrong(self):
        self.assertEqual(last([begin(0, 0)]), [WRONG])
        self.assertEqual(last([begin(121, 9)]), [WRONG])

    def test_the_day_is_as_long_as_told(self):
        for minutes in (1, 7, 120):
            made = [begin(minutes, 1), crossing()]
            self.assertEqual(last(made + [runs(0, minutes - 1)]), [0])
            self.assertEqual(last(made + [runs(0, minutes)]), [WRONG])

    def test_the_gap_is_as_told(self):
        for needed in range(1, 9):
            self.assertEqual(last([begin(10, needed), gap(1)]), [needed])

    def test_nothing_is_there(self):
        for call in (runs(0, 0), crossable(0, 0), following(0, 0), shuts(0), clear(0), span(0, 0, 1), look(0)):
            self.assertEqual(last([begin(10, 1), call]), [NO_SUCH])
        self.assertEqual(last([begin(10, 1), state()]), [10, 1, 0, 0, 0])
        self.assertEqual(last([begin(10, 1), road(0, 1, 1, 0)]), [NO_SUCH])
        self.assertEqual(told([begin(10, 1), crossing(), place()]), [[0], [0], [0]])


class BeginAnew(unittest.TestCase):
    full = [begin(20, 3), crossing(), crossing(), span(0, 2, 5), span(1, 0, 20), place(), place(), place(),
            road(0, 1, 5, 2), road(1, 2, 5, 0)]

    def test_all_is_gone(self):
        anew = self.full + [begin(10, 2)]
        self.assertEqual(last(anew), [0])
        for call in (runs(0, 0), shuts(1), clear(0), road(0, 1, 1, 0)):
            self.assertEqual(last(anew + [call]), [NO_SUCH])
        self.assertEqual(told(anew + probe(10, 0, 2))[len(anew):], told([begin(10, 2)] + probe(10, 0, 2))[1:])

    def test_spans_and_roads_are_gone(self):
        anew = self.full + [begin(10, 2), crossing()]
        self.assertEqual(last(anew + [shuts(0)]), [0])
        self.assertEqual(last(anew + [clear(0)]), [0])
        self.assertEqual(last(anew + [place(), place(), road(0, 1, 1, 0)]), [0])

    def test_day_and_gap_are_the_new_ones(self):
        anew = self.full + [begin(30, 8), crossing()]
        self.assertEqual(last(anew + [runs(0, 29)]), [0])
        self.assertEqual(last(anew + [runs(0, 30)]), [WRONG])
        self.assertEqual(last(anew + [gap(1)]), [8])
        self.assertEqual(last(anew + [state()]), [30, 8, 1, 0, 0])

    def test_a_refused_one_changes_nothing(self):
        for refused in (begin(0, 1), begin(121, 1), begin(10, 0), begin(10, 9), begin(HUGE, HUGE)):
            self.assertEqual(last(self.full + [refused]), [WRONG])
            self.assertEqual(told(self.full + [refused] + probe(20, 2, 2))[len(self.full) + 1:],
                             told(self.full + probe(20, 2, 2))[len(self.full):])


class Crossing(unittest.TestCase):
    def test_numbers_rise_from_0_up_to_6(self):
        self.assertEqual(told([begin(10, 1)] + [crossing()] * 8),
                         [[0], [0], [1], [2], [3], [4], [5], [FULL], [FULL]])

    def test_it_has_no_spans(self):
        made = [begin(5, 1), crossing(), span(0, 0, 5), crossing()]
        self.assertEqual(last(made + [clear(1)]), [0])
        self.assertEqual([last(made + [runs(1, t)]) for t in range(5)], [[0]] * 5)


class Span(unittest.TestCase):
    def test_how_many_it_has(self):
        self.assertEqual(told([begin(10, 1), crossing()] + [span(0, 0, 1)] * 8),
                         [[0], [0], [1], [2], [3], [4], [5], [6], [FULL], [FULL]])

    def test_each_crossing_has_its_own(self):
        made = [begin(4, 1), crossing(), crossing(), span(1, 1, 2)]
        self.assertEqual(last(made + [span(0, 0, 1)]), [1])
        self.assertEqual(last(made + [span(1, 0, 1)]), [2])
        self.assertEqual(answered(made, [runs(c, t) for c in range(2) for t in range(4)]), [0, 0, 0, 0, 0, 1, 1, 0])

    def test_six_at_each_of_six(self):
        made = [begin(10, 1)] + [crossing()] * 6 + [span(c, 0, 1) for c in range(6) for i in range(6)]
        self.assertEqual([answer[0] for answer in told(made)[7:]], [1, 2, 3, 4, 5, 6] * 6)
        self.assertEqual([last(made + [span(c, 0, 1)]) for c in range(6)], [[FULL]] * 6)

    def test_within_the_day(self):
        made = [begin(10, 1), crossing()]
        for start, length in ((0, 1), (0, 10), (9, 1), (4, 6)):
            self.assertEqual(last(made + [span(0, start, length)]), [1])

    def test_not_within_the_day(self):
        made = [begin(10, 1), crossing()]
        for start, length in ((0, 11), (1, 10), (9, 2), (10, 1), (11, 1), (HUGE, 1), (0, HUGE), (1, HUGE), (HUGE, HUGE)):
            self.assertEqual(last(made + [span(0, start, length)]), [WRONG])

    def test_long_is_0(self):
        for start in (0, 5, 9, 10, HUGE):
            self.assertEqual(last([begin(10, 1), crossing(), span(0, start, 0)]), [WRONG])

    def test_no_such_crossing(self):
        self.assertEqual(last([begin(10, 1), span(0, 0, 1)]), [NO_SUCH])
        for c in (1, 2, HUGE):
            self.assertEqual(last([begin(10, 1), crossing(), span(c, 0, 1)]), [NO_SUCH])

    def test_which_of_several(self):
        full = [begin(10, 1), crossing()] + [span(0, 0, 1)] * 6
        self.assertEqual(last(full + [span(1, 0, 0)]), [NO_SUCH])
        self.assertEqual(last(full + [span(1, 10, 1)]), [NO_SUCH])
        self.assertEqual(last(full + [span(0, 0, 0)]), [WRONG])
        self.assertEqual(last(full + [span(0, 9, 2)]), [WRONG])


class Clear(unittest.TestCase):
    def test_how_many_it_had(self):
        made = [begin(10, 1), crossing()]
        for had in range(7):
            self.assertEqual(told(made + [span(0, 0, 1)] * had + [clear(0), clear(0)])[-2:], [[had], [0]])

    def test_no_spans_any_more(self):
        made = at_crossing(6, 1, [(0, 2), (3, 3)]) + [clear(0)]
        self.assertEqual(answered(made, row(runs, 6)), [0] * 6)
        self.assertEqual(answered(made, row(crossable, 6)), [1] * 6)
        self.assertEqual(last(made + [shuts(0)]), [0])

    def test_six_more_may_come(self):
        made = [begin(10, 1), crossing()] + [span(0, 0, 1)] * 6 + [clear(0)]
        self.assertEqual([answer[0] for answer in told(made + [span(0, 2, 1)] * 7)[-7:]], [1, 2, 3, 4, 5, 6, FULL])

    def test_other_crossings_keep_theirs(self):
        made = [begin(3, 1), crossing(), crossing(), span(0, 0, 1), span(1, 1, 1), clear(0)]
        self.assertEqual(answered(made, [runs(1, t) for t in range(3)]), [0, 1, 0])

    def test_the_crossing_stays(self):
        self.assertEqual(last(at_crossing(6, 1, [(0, 2)]) + [clear(0), crossing()]), [1])

    def test_no_such_crossing(self):
        for c in (1, 2, HUGE):
            self.assertEqual(last([begin(10, 1), crossing(), clear(c)]), [NO_SUCH])


class Place(unittest.TestCase):
    def test_numbers_rise_from_0_up_to_6(self):
        self.assertEqual(told([begin(10, 1)] + [place()] * 8), [[0], [0], [1], [2], [3], [4], [5], [FULL], [FULL]])

    def test_counted_apart_from_crossings(self):
        self.assertEqual(told([begin(10, 1), crossing(), place(), crossing(), place()]), [[0], [0], [0], [1], [1]])
        self.assertEqual(last([begin(10, 1)] + [crossing()] * 6 + [place()]), [0])


class Road(unittest.TestCase):
    made = [begin(10, 1), crossing(), place(), place(), place()]

    def test_numbers_rise_from_0_up_to_12(self):
        self.assertEqual([answer[0] for answer in told(self.made + [road(0, 1, 5, 0)] * 14)[-14:]],
                         [0, 1, 2, 3, 4, 5, 6, 7, 8, 9, 10, 11, FULL, FULL])

    def test_least_and_most_are_taken(self):
        for length in (1, 2, 99, 100):
            for over in (0, 1):
                self.assertEqual(last(self.made + [road(2, 0, length, over)]), [0])

    def test_wrong_length(self):
        for length in (0, 101, 102, HUGE):
            self.assertEqual(last(self.made + [road(0, 1, length, 0)]), [WRONG])

    def test_to_its_own_place(self):
        for p in range(3):
            self.assertEqual(last(self.made + [road(p, p, 5, 0)]), [WRONG])

    def test_no_such_place(self):
        for p, q in ((3, 0), (0, 3), (HUGE, 0), (0, HUGE), (3, 4), (3, 3), (HUGE, HUGE)):
            self.assertEqual(last(self.made + [road(p, q, 5, 0)]), [NO_SUCH])

    def test_no_such_crossing(self):
        for over in (2, 3, HUGE):
            self.assertEqual(last(self.made + [road(0, 1, 5, over)]), [NO_SUCH])
        self.assertEqual(last([begin(10, 1), place(), place(), road(0, 1, 5, 1)]), [NO_SUCH])
        self.assertEqual(last(self.made + [crossing(), road(0, 1, 5, 2)]), [0])

    def test_over_the_last_crossing(self):
        made = [begin(10, 1), place(), place()] + [crossing()] * 6
        self.assertEqual(last(made + [road(0, 1, 5, 6)]), [0])
        self.assertEqual(last(made + [road(0, 1, 5, 7)]), [NO_SUCH])

    def test_which_of_several(self):
        full = self.made + [road(0, 1, 5, 0)] * 12
        for wrong in (road(3, 3, 0, 0), road(0, 3, 101, 0), road(3, 0, 5, 0), road(0, 0, 5, 2), road(0, 1, 0, 2)):
            self.assertEqual(last(self.made + [wrong]), [NO_SUCH])
            self.assertEqual(last(full + [wrong]), [NO_SUCH])
        for wrong in (road(0, 0, 5, 0), road(0, 1, 0, 0), road(0, 1, 101, 1), road(1, 1, 0, 0)):
            self.assertEqual(last(full + [wrong]), [WRONG])

    def test_it_is_kept_as_told(self):
        for told_road in (road(0, 1, 1, 0), road(2, 0, 100, 1), road(1, 2, 37, 2)):
            made = self.made + [crossing(), told_road]
            p, q, length, over = told_road[1:]
            self.assertEqual(last(made + [look(0)]), [length, p, q, over])

    def test_either_way_and_twice(self):
        self.assertEqual(told(self.made + [road(0, 1, 5, 0), road(1, 0, 5, 0), road(0, 1, 5, 0)])[-3:], [[0], [1], [2]])


class Gap(unittest.TestCase):
    def test_how_many_it_did(self):
        self.assertEqual(told([begin(10, 3), gap(1), gap(8), gap(8), gap(2)]), [[0], [3], [1], [8], [8]])

    def test_wrong(self):
        for n in (0, 9, 10, HUGE):
            self.assertEqual(told([begin(10, 3), gap(n), gap(4)])[1:], [[WRONG], [3]])

    def test_from_now_on(self):
        made = at_crossing(8, 1, [(0, 1), (2, 2), (6, 1)])
        # The minutes without runners: 1 alone, 4 and 5, and 7 with all behind the day.
        self.assertEqual(answered(made, row(crossable, 8)), [0, 1, 0, 0, 1, 1, 0, 1])
        self.assertEqual(answered(made + [gap(2)], row(crossable, 8)), [0, 0, 0, 0, 1, 1, 0, 1])
        self.assertEqual(answered(made + [gap(3)], row(crossable, 8)), [0, 0, 0, 0, 0, 0, 0, 1])
        self.assertEqual(answered(made + [gap(3), gap(1)], row(crossable, 8)), [0, 1, 0, 0, 1, 1, 0, 1])
        self.assertEqual(last(made + [shuts(0)]), [3, 0, 1, 2, 2, 6, 1])
        self.assertEqual(last(made + [gap(2), shuts(0)]), [2, 0, 4, 6, 1])
        self.assertEqual(last(made + [gap(3), shuts(0)]), [1, 0, 7])
        self.assertEqual(told(made + [following(0, 0), gap(2), following(0, 0), gap(3), following(0, 0)])[-5:],
                         [[1], [1], [4], [2], [7]])

    def test_runners_pass_as_before(self):
        made = at_crossing(5, 1, [(1, 2)])
        self.assertEqual(answered(made + [gap(8)], row(runs, 5)), [0, 1, 1, 0, 0])

    def test_for_all_crossings(self):
        made = [begin(5, 1), crossing(), crossing(), span(0, 1, 1), span(1, 1, 1)]
        self.assertEqual(answered(made + [gap(2)], [crossable(0, 0), crossable(1, 0)]), [0, 0])


if __name__ == "__main__":
    unittest.main()
