"""The calls ahead of the points, and the form of what is handed in and given back."""

import unittest

from lines import (
    FULL, HUGE, NOT_BEGUN, NO_SUCH, NO_WAY, WRONG, arrive, begin, clear, crossable, crossing, duties, everywhere,
    following, gap, holds, latest, least, longest, look, marshals, place, probe, road, runs, shuts, span, state, told,
    worst,
)
from roadsclosed.crossings import answers

# Each call by its number, with as many numbers as it takes.
EVERY_OTHER_CALL = [
    [1], [2, 0, 0, 1], [3, 0], [4], [5, 0, 1, 5, 0], [6, 1], [7, 0, 0], [8, 0, 0], [9, 0, 0], [10, 0], [11, 0],
    [12, 0, 1], [13, 0, 1], [14], [15], [16, 0, 0, 0], [17, 0, 0], [18, 0, 0, 0], [19, 0, 0], [20, 0], [21],
]


class NotBegun(unittest.TestCase):
    def test_each_call(self):
        for call in EVERY_OTHER_CALL:
            self.assertEqual(answers(call), [1, NOT_BEGUN])

    def test_each_call_is_passed_over_whole(self):
        for call in EVERY_OTHER_CALL:
            self.assertEqual(told([call, begin(10, 3), gap(1)]), [[NOT_BEGUN], [0], [3]])
        self.assertEqual(told(EVERY_OTHER_CALL), [[NOT_BEGUN]] * 21)

    def test_ahead_of_other_refusals(self):
        for call in (gap(0), gap(9), span(0, 0, 0), span(9, 200, 0), road(0, 0, 0, 9), shuts(7), runs(9, 500),
                     longest(7), holds(7, 0), least(7, 0), arrive(7, 0, 500), everywhere(7, 500), latest(0, 7, 500),
                     worst(7, 7), look(12)):
            self.assertEqual(told([call]), [[NOT_BEGUN]])

    def test_a_refused_begin_begins_nothing(self):
        for refused in (begin(0, 1), begin(121, 1), begin(10, 0), begin(10, 9)):
            for call in EVERY_OTHER_CALL:
                self.assertEqual(told([refused, call]), [[WRONG], [NOT_BEGUN]])
            self.assertEqual(told([refused, begin(10, 3), gap(1)]), [[WRONG], [0], [3]])

    def test_nothing_is_made_ahead_of_begin(self):
        self.assertEqual(told([crossing(), place(), gap(5), begin(10, 3), shuts(0), crossing(), place(), gap(1)]),
                         [[NOT_BEGUN], [NOT_BEGUN], [NOT_BEGUN], [0], [NO_SUCH], [0], [0], [3]])

    def test_a_refused_begin_later_leaves_it_begun(self):
        self.assertEqual(told([begin(10, 3), begin(0, 0), crossing()]), [[0], [WRONG], [0]])


class RefusedChangesNothing(unittest.TestCase):
    def check(self, made, shown, refused):
        without = told(made + shown)[len(made):]
        for number, calls in refused.items():
            for call in calls:
                rows = told(made + [call] + shown)[len(made):]
                self.assertEqual(rows[0], [number], call)
                self.assertEqual(rows[1:], without, call)

    def test_with_room_left(self):
        made = [begin(12, 2), crossing(), crossing(), span(0, 1, 3), span(1, 4, 4), place(), place(), place(),
                road(0, 1, 9, 1)]
        self.check(made, probe(12, 2, 1), {
            NO_SUCH: [
                span(2, 0, 1), clear(2), road(0, 3, 5, 0), road(3, 0, 5, 0), road(0, 1, 5, 3), runs(2, 0),
                crossable(2, 0), following(2, 0), shuts(2), longest(2), holds(2, 1), least(2, 0), arrive(3, 0, 0),
                arrive(0, 3, 0), everywhere(3, 0), latest(3, 0, 0), latest(0, 3, 0), worst(3, 0), worst(0, 3), look(1),
            ],
            WRONG: [
                begin(0, 1), begin(121, 1), begin(9, 0), begin(9, 9), span(0, 0, 0), span(0, 11, 2), span(1, 12, 1),
                road(1, 1, 5, 0), road(0, 1, 0, 0), road(0, 1, 101, 0), gap(0), gap(9), runs(0, 12), crossable(0, 12),
                following(0, 12), holds(0, 0), holds(0, 121), arrive(0, 1, 12), everywhere(0, 12), latest(0, 1, 12),
            ],
            NO_WAY: [arrive(0, 2, 0), latest(0, 2, 11), latest(0, 1, 0), worst(2, 0)],
        })

    def test_without_room(self):
        made = [begin(3, 2)] + [crossing()] * 6 + [span(5, 1, 1)] * 6 + [place()] * 6 + [road(0, 1, 5, 0)] * 12
        self.check(made, probe(3, 6, 12), {FULL: [crossing(), span(5, 0, 1), place(), road(0, 1, 5, 0)]})

    def test_calls_that_only_ask_change_nothing(self):
        made = [begin(12, 2), crossing(), span(0, 1, 3), place(), place(), road(0, 1, 9, 1)]
        shown = probe(12, 1, 1)
        for call in EVERY_OTHER_CALL[6:]:
            rows = told(made + [call] + shown)[len(made):]
            self.assertGreaterEqual(min(rows[0]), 0, call)
            self.assertEqual(rows[1:], told(made + shown)[len(made):], call)


class Huge(unittest.TestCase):
    """The greatest whole number, at each place where a number is handed over."""

    # What is answered with it at the call's first place, its second, and so on.
    answered = [
        (begin(10, 1), [WRONG, WRONG]), (span(0, 0, 1), [NO_SUCH, WRONG, WRONG]), (clear(0), [NO_SUCH]),
        (road(0, 1, 5, 0), [NO_SUCH, NO_SUCH, WRONG, NO_SUCH]), (gap(1), [WRONG]), (runs(0, 0), [NO_SUCH, WRONG]),
        (crossable(0, 0), [NO_SUCH, WRONG]), (following(0, 0), [NO_SUCH, WRONG]), (shuts(0), [NO_SUCH]),
        (longest(0), [NO_SUCH]), (holds(0, 1), [NO_SUCH, WRONG]), (least(0, 0), [NO_SUCH, 1]),
        (arrive(0, 1, 0), [NO_SUCH, NO_SUCH, WRONG]), (everywhere(0, 0), [NO_SUCH, WRONG]),
        (latest(0, 1, 0), [NO_SUCH, NO_SUCH, WRONG]), (worst(0, 1), [NO_SUCH, NO_SUCH]), (look(0), [NO_SUCH]),
    ]

    def test_at_each_place(self):
        made = [begin(12, 2), crossing(), span(0, 2, 3), place(), place(), road(0, 1, 9, 1)]
        for call, numbers in self.answered:
            self.assertEqual(len(call), 1 + len(numbers))
            for at, number in enumerate(numbers, start=1):
                handed = call[:at] + [HUGE] + call[at + 1:]
                self.assertEqual(told(made + [handed])[-1], [number], handed)

    def test_at_all_places_at_once(self):
        made = [begin(12, 2), crossing(), span(0, 2, 3), place(), place(), road(0, 1, 9, 1)]
        for call, numbers in self.answered:
            handed = [call[0]] + [HUGE] * len(numbers)
            self.assertEqual(told(made + [handed])[-1], [numbers[0]], handed)

    def test_ahead_of_a_begin(self):
        for call in EVERY_OTHER_CALL:
            handed = [call[0]] + [HUGE] * (len(call) - 1)
            self.assertEqual(told([handed, begin(HUGE, HUGE), handed]), [[NOT_BEGUN], [WRONG], [NOT_BEGUN]])


class Form(unittest.TestCase):
    line = [
        0, 10, 1, 1, 2, 0, 1, 2, 2, 0, 5, 1, 10, 0, 10, 1, 7, 0, 1, 8, 0, 1, 9, 0, 1, 11, 0, 12, 0, 1, 13, 0, 0, 14, 15,
        4, 4, 4, 5, 0, 1, 3, 1, 16, 0, 1, 0, 17, 0, 0, 18, 0, 1, 9, 19, 0, 1, 19, 0, 2, 20, 0, 21, 6, 2, 3, 0,
    ]
    answer = [
        1, 0, 1, 0, 1, 1, 1, 2, 5, 2, 1, 2, 5, 1, 1, -2, 1, 1, 1, 0, 1, 3, 1, 2, 2, 1, 2, 1, 2, 1, 1,
        9, 2, 1, 0, 2, 0, 5, 0, 1, 0, 1, 0, 1, 1, 1, 2, 1, 0, 1, 5, 4, 3, 1, 6, 0, 1, 6, 2, 0, 5, 1, -33,
        4, 3, 0, 1, 1, 5, 10, 1, 1, 3, 1, 1, 1, 1, 2,
    ]

    def test_numbers_one_behind_another(self):
        self.assertEqual(answers(self.line), self.answer)

    def test_a_call_alone(self):
        self.assertEqual(answers([0, 10, 1]), [1, 0])
        self.assertEqual(answers([1]), [1, -61])

    def test_whole_numbers_in_a_list(self):
        given = answers(self.line)
        self.assertIs(type(given), list)
        self.assertEqual({type(number) for number in given}, {int})

    def test_how_many_numbers_each_call_answers(self):
        made = [begin(12, 1), crossing(), crossing(), span(0, 1, 4), span(0, 7, 2), place(), place(), place(),
                road(0, 1, 5, 0)]
        asked = [runs(0, 0), crossable(0, 0), following(0, 0), shuts(0), longest(0), holds(0, 1), least(0, 0),
                 marshals(), duties(), arrive(0, 1, 0), everywhere(0, 0), latest(0, 1, 9), worst(0, 1), look(0), state()]
        self.assertEqual([len(answer) for answer in told(made + asked)[len(made):]],
                         [1, 1, 1, 5, 1, 4, 1, 1, 9, 1, 4, 1, 2, 4, 5])

    def test_a_hundred_calls(self):
        self.assertEqual(told([begin(10, 1)] + [crossing()] * 99), [[0]] + [[c] for c in range(6)] + [[-28]] * 93)

    def test_five_hundred_numbers(self):
        line = [begin(120, 8)] + [place()] * 3 + [road(0, 1, 100, 0)] * 95 + [[3, 0]]
        self.assertLessEqual(sum(len(call) for call in line), 500)
        self.assertEqual(told(line), [[0], [0], [1], [2]] + [[r] for r in range(12)] + [[-28]] * 83 + [[-2]])

    def test_a_hundred_long_answers(self):
        # As many crossings, roads and minutes as there may be, asked again and again.
        made = [begin(120, 1)] + [crossing()] * 6 + [span(c, 0, 120) for c in range(6)] + [place()] * 6
        made += [road(p, (p + 1) % 6, 100, 1 + p) for p in range(6)] * 2
        self.assertEqual(told(made + [worst(0, 3)] * (100 - len(made)))[len(made):],
                         [[0, 370]] * (100 - len(made)))


class Untouchable(list):
    """A list that fails when it is changed, even if it were changed back."""

    def refuse(self, *handed):
        raise AssertionError("what is handed in is changed")

    append = extend = insert = pop = remove = clear = sort = reverse = refuse
    __setitem__ = __delitem__ = __iadd__ = __imul__ = refuse


class NothingKept(unittest.TestCase):
    def test_the_list_is_as_it_was(self):
        line = list(Form.line)
        answers(line)
        self.assertEqual(line, Form.line)

    def test_the_list_is_not_changed_for_a_while(self):
        self.assertEqual(answers(Untouchable(Form.line)), Form.answer)

    def test_a_second_time_is_like_the_first(self):
        line = list(Form.line)
        self.assertEqual(answers(line), Form.answer)
        self.assertEqual(answers(line), Form.answer)

    def test_begun_once_is_not_begun_for_ever(self):
        answers(Form.line)
        self.assertEqual(answers([1]), [1, -61])

    def test_other_lines_between(self):
        for other in ([0, 10, 8, 1, 1, 4, 4, 5, 0, 1, 5, 0], [1], [0, 0, 0], [0, 120, 8] + [1] * 7):
            answers(other)
            self.assertEqual(answers(Form.line), Form.answer)

    def test_what_is_given_back_is_the_callers(self):
        given = answers(Form.line)
        given.append(7)
        given[0] = 7
        self.assertEqual(answers(Form.line), Form.answer)


if __name__ == "__main__":
    unittest.main()
