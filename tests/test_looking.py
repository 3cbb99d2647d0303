"""Point 5: look, state."""

import unittest

from lines import (
    FULL, HUGE, NO_SUCH, WRONG, begin, clear, crossing, duties, everywhere, gap, last, look, place, road, span, state,
    told,
)


class Look(unittest.TestCase):
    made = [begin(10, 1), crossing(), crossing(), place(), place(), place(), road(0, 1, 5, 0), road(2, 1, 100, 2),
            road(1, 0, 1, 1), road(0, 1, 5, 0)]

    def test_each_road_as_it_was_made(self):
        self.assertEqual(told(self.made + [look(r) for r in range(4)])[-4:],
                         [[5, 0, 1, 0], [100, 2, 1, 2], [1, 1, 0, 1], [5, 0, 1, 0]])

    def test_the_last_of_twelve(self):
        made = [begin(10, 1), place(), place()] + [road(0, 1, 1 + r, 0) for r in range(13)]
        self.assertEqual(last(made), [FULL])
        self.assertEqual(last(made + [look(11)]), [12, 0, 1, 0])
        self.assertEqual(last(made + [look(12)]), [NO_SUCH])

    def test_no_such_road(self):
        for r in (4, 5, HUGE):
            self.assertEqual(last(self.made + [look(r)]), [NO_SUCH])
        for r in (0, HUGE):
            self.assertEqual(last([begin(10, 1), look(r)]), [NO_SUCH])
            self.assertEqual(last([begin(10, 1), crossing(), place(), place(), look(r)]), [NO_SUCH])

    def test_a_begin_on_an_object_that_has_begun(self):
        anew = self.made + [begin(10, 1)]
        self.assertEqual(last(anew + [look(0)]), [NO_SUCH])
        self.assertEqual(last(anew + [place(), place(), road(1, 0, 7, 0), look(0)]), [7, 1, 0, 0])

    def test_nothing_else_changes_a_road(self):
        for call in (clear(1), gap(8), span(1, 0, 10), place(), crossing(), everywhere(0, 0), duties()):
            self.assertEqual(last(self.made + [call, look(1)]), [100, 2, 1, 2])


class State(unittest.TestCase):
    def test_a_new_day(self):
        self.assertEqual(last([begin(10, 3), state()]), [10, 3, 0, 0, 0])
        self.assertEqual(last([begin(1, 1), state()]), [1, 1, 0, 0, 0])
        self.assertEqual(last([begin(120, 8), state()]), [120, 8, 0, 0, 0])

    def test_as_things_are_made(self):
        calls = [begin(10, 3), crossing(), place(), place(), place(), crossing(), road(0, 1, 5, 0), gap(7)]
        seen = [last(calls[:many] + [state()]) for many in range(1, 9)]
        self.assertEqual(seen, [
            [10, 3, 0, 0, 0], [10, 3, 1, 0, 0], [10, 3, 1, 1, 0], [10, 3, 1, 2, 0], [10, 3, 1, 3, 0], [10, 3, 2, 3, 0],
            [10, 3, 2, 3, 1], [10, 7, 2, 3, 1],
        ])

    def test_as_many_as_there_may_be(self):
        made = [begin(10, 3)] + [crossing()] * 7 + [place()] * 7 + [road(0, 1, 5, 0)] * 13
        self.assertEqual(last(made + [state()]), [10, 3, 6, 6, 12])

    def test_spans_are_not_counted(self):
        made = [begin(10, 3), crossing(), span(0, 0, 4), span(0, 5, 1)]
        self.assertEqual(last(made + [state()]), [10, 3, 1, 0, 0])
        self.assertEqual(last(made + [clear(0), state()]), [10, 3, 1, 0, 0])

    def test_a_begin_on_an_object_that_has_begun(self):
        made = [begin(10, 3), crossing(), place(), place(), road(0, 1, 5, 0)]
        self.assertEqual(last(made + [begin(20, 4), state()]), [20, 4, 0, 0, 0])
        self.assertEqual(told(made + [begin(20, 9), state()])[-2:], [[WRONG], [10, 3, 1, 2, 1]])


if __name__ == "__main__":
    unittest.main()
