"""The calls ahead of the points, and the form of what is handed in and given back."""

import unittest

from lines import NOT_BEGUN, NO_SUCH, WRONG, begin, crossing, gap, place, road, shuts, span, told
from roadsclosed.crossings import answers

# Each call by its number, with as many numbers as it takes.
EVERY_OTHER_CALL = [
    [1], [2, 0, 0, 1], [3, 0], [4], [5, 0, 1, 5, 0], [6, 1], [7, 0, 0], [8, 0, 0], [9, 0, 0], [10, 0], [11, 0],
    [12, 0, 1], [13, 0, 1], [14], [15], [16, 0, 0, 0], [17, 0, 0], [18, 0, 0, 0], [19, 0, 0], [20, 0], [21],
]


class NotBegun(unittest.TestCase):
    def test_each_call(self):
        for call in EVERY_OTHER_CALL:
            self.assertEqual(answers(call), [1, NOT_BEGUN])

    def test_each_call_is_passed_over_whole(self):
        for call in EVERY_OTHER_CALL:
            self.assertEqual(told([call, begin(10, 3), gap(1)]), [[NOT_BEGUN], [0], [3]])
        self.assertEqual(told(EVERY_OTHER_CALL), [[NOT_BEGUN]] * 21)

    def test_ahead_of_other_refusals(self):
        for call in (gap(0), gap(9), span(0, 0, 0), span(9, 200, 0), road(0, 0, 0, 9), shuts(7), [7, 9, 500]):
            self.assertEqual(told([call]), [[NOT_BEGUN]])

    def test_a_refused_begin_begins_nothing(self):
        for refused in (begin(0, 1), begin(121, 1), begin(10, 0), begin(10, 9)):
            for call in EVERY_OTHER_CALL:
                self.assertEqual(told([refused, call]), [[WRONG], [NOT_BEGUN]])
            self.assertEqual(told([refused, begin(10, 3), gap(1)]), [[WRONG], [0], [3]])

    def test_nothing_is_made_ahead_of_begin(self):
        self.assertEqual(told([crossing(), place(), gap(5), begin(10, 3), shuts(0), crossing(), place(), gap(1)]),
                         [[NOT_BEGUN], [NOT_BEGUN], [NOT_BEGUN], [0], [NO_SUCH], [0], [0], [3]])

    def test_a_refused_begin_later_leaves_it_begun(self):
        self.assertEqual(told([begin(10, 3), begin(0, 0), crossing()]), [[0], [WRONG], [0]])


class Form(unittest.TestCase):
    line = [0, 10, 1, 1, 2, 0, 1, 2, 2, 0, 5, 1, 10, 0, 10, 1, 7, 0, 1, 8, 0, 1, 9, 0, 1]
    answer = [1, 0, 1, 0, 1, 1, 1, 2, 5, 2, 1, 2, 5, 1, 1, -2, 1, 1, 1, 0, 1, 3]

    def test_numbers_one_behind_another(self):
        self.assertEqual(answers(self.line), self.answer)

    def test_a_call_alone(self):
        self.assertEqual(answers([0, 10, 1]), [1, 0])
        self.assertEqual(answers([1]), [1, -61])

    def test_whole_numbers_in_a_list(self):
        given = answers(self.line)
        self.assertIs(type(given), list)
        self.assertEqual({type(number) for number in given}, {int})

    def test_a_hundred_calls(self):
        self.assertEqual(told([begin(10, 1)] + [crossing()] * 99), [[0]] + [[c] for c in range(6)] + [[-28]] * 93)

    def test_five_hundred_numbers(self):
        line = [begin(120, 8)] + [place()] * 3 + [road(0, 1, 100, 0)] * 95 + [[3, 0]]
        self.assertLessEqual(sum(len(call) for call in line), 500)
        self.assertEqual(told(line), [[0], [0], [1], [2]] + [[r] for r in range(12)] + [[-28]] * 83 + [[-2]])


class Untouchable(list):
    """A list that fails when it is changed, even if it were changed back."""

    def refuse(self, *handed):
        raise AssertionError("what is handed in is changed")

    append = extend = insert = pop = remove = clear = sort = reverse = refuse
    __setitem__ = __delitem__ = __iadd__ = __imul__ = refuse


class NothingKept(unittest.TestCase):
    def test_the_list_is_as_it_was(self):
        line = list(Form.line)
        answers(line)
        self.assertEqual(line, Form.line)

    def test_the_list_is_not_changed_for_a_while(self):
        self.assertEqual(answers(Untouchable(Form.line)), Form.answer)

    def test_a_second_time_is_like_the_first(self):
        line = list(Form.line)
        self.assertEqual(answers(line), Form.answer)
        self.assertEqual(answers(line), Form.answer)

    def test_begun_once_is_not_begun_for_ever(self):
        answers(Form.line)
        self.assertEqual(answers([1]), [1, -61])

    def test_other_lines_between(self):
        for other in ([0, 10, 8, 1, 1, 4, 4, 5, 0, 1, 5, 0], [1], [0, 0, 0], [0, 120, 8] + [1] * 7):
            answers(other)
            self.assertEqual(answers(Form.line), Form.answer)

    def test_what_is_given_back_is_the_callers(self):
        given = answers(Form.line)
        given.append(7)
        given[0] = 7
        self.assertEqual(answers(Form.line), Form.answer)


if __name__ == "__main__":
    unittest.main()
