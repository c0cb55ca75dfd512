"""The interface: how calls and answers are laid out, and that nothing is changed or kept."""

import contextlib
import inspect
import io
import unittest

import failrules.plant
from failrules.plant import answers

LARGEST = 4294967295

# Lines with all calls, and their answers, written out number by number: begin to run, then explains to state.
LINE = [
    12,
    0,
    1, 1,
    1, 2,
    1, 0,
    2, 0, 2,
    3, 1, 2,
    4, 0, 1, 2,
    5, 0, 0, 1,
    6, 2,
    7, 0, 0, 1, 1,
    8, 4,
    7, 0, 0, 1, 1,
    9, 0, 0, 0,
    9, 1, 1, 3,
    10, 1, 0, 2,
    12,
    13, 0,
    13, 2, 3, 4,
    13, 4, 4, 1, 3, 0,
    13, 1, 5,
    11, 1,
    12,
]
TOLD = [
    1, -11,
    1, 0,
    1, 0,
    1, 1,
    1, 2,
    1, 0,
    1, 1,
    1, 2,
    1, 3,
    1, 4,
    1, -28,
    1, 4,
    1, 4,
    1, 0,
    1, 1,
    1, 2,
    1, 0,
    1, -33,
    13, 2, 0, 1, 3, 1, 0, 1, 0, 2, 3, 0, 0, 2,
    13, 2, 0, 1, 2, 2, 0, 2, 0, 2, 3, 1, 0, 2,
    1, -22,
    1, 2,
    1, 1,
]


ASKING_LINE = [
    26,
    0,
    1, 1,
    1, 0,
    5, 0, 0, 1,
    6, 1,
    9, 1, 0, 2,
    14, 0,
    14, 1, 1,
    14, 2, 1, 1,
    15,
    16, 1,
    17,
    18,
    19,
    20,
    21, 0,
    22, 0, 0, 1, 0,
    22, 0, 0, 0,
    23, 0, 1, 0,
    23, 0, 0, 0,
    24, 0,
    25, 0,
    26,
]
ASKING_TOLD = [
    1, -11,
    1, 0,
    1, 0,
    1, 1,
    1, 0,
    1, 1,
    1, 0,
    1, 0,
    1, 1,
    1, -22,
    3, 2, 1, 2,
    2, 1, 1,
    2, 1, 0,
    3, 2, 0, 1,
    1, 0,
    2, 1, 3,
    3, 2, 0, 1,
    3, 2, 1, 2,
    1, -33,
    3, 2, 1, 2,
    1, 0,
    1, 0,
    4, 1, 0, 0, 2,
    6, 2, 2, 1, 2, 1, 0,
]


class Watched(list):
    """A list that doesn't let itself be changed, not for a while either."""

    def refuse(self, *given):
        raise AssertionError("what is handed in was changed")

    append = extend = insert = pop = remove = clear = reverse = sort = refuse
    __setitem__ = __delitem__ = __iadd__ = __imul__ = refuse


class Interface(unittest.TestCase):
    def test_its_name_and_arguments(self):
        self.assertEqual(list(inspect.signature(failrules.plant.answers).parameters), ["calls"])

    def test_the_empty_list(self):
        self.assertEqual(answers([]), [])

    def test_numbers_of_the_calls_and_layout(self):
        self.assertEqual(answers(LINE), TOLD)
        self.assertEqual(answers(ASKING_LINE), ASKING_TOLD)

    def test_gives_back_a_list_of_ints(self):
        for line in ([], LINE, ASKING_LINE):
            told = answers(line)
            self.assertIs(type(told), list)
            self.assertLessEqual({type(number) for number in told}, {int})

    def test_each_beginning_of_a_line_answers_as_it_does_within_it(self):
        self.assertEqual(answers(LINE[:1]), TOLD[:2])
        self.assertEqual(answers(LINE[:2]), TOLD[:4])
        self.assertEqual(answers(LINE[:4]), TOLD[:6])
        self.assertEqual(answers(LINE[:-1]), TOLD[:-2])

    def test_what_is_handed_in_is_as_it_was(self):
        for line in (LINE, ASKING_LINE, [], [12], [0, 13, 0], [0, 14, 2, 0, 0], [0, 22, 0, 0, 1, 0], [0, 1, 4], [0, 1, 0, 6, 0, 13, 2, 0, 0]):
            given = list(line)
            answers(given)
            self.assertEqual(given, line)

    def test_what_is_handed_in_is_not_changed_for_a_while(self):
        self.assertEqual(answers(Watched(LINE)), TOLD)
        self.assertEqual(answers(Watched(ASKING_LINE)), ASKING_TOLD)

    def test_a_second_time_answers_like_the_first(self):
        first = answers(LINE)
        self.assertEqual(answers(LINE), first)
        # What is given back belongs to the caller: to change it is not to change a later answer.
        first.clear()
        self.assertEqual(answers(LINE), TOLD)
        answers(ASKING_LINE).clear()
        self.assertEqual(answers(ASKING_LINE), ASKING_TOLD)

    def test_nothing_is_kept_from_one_time_to_the_next(self):
        answers([0, 1, 1, 6, 0, 10, 0, 0, 2])
        self.assertEqual(answers([12, 6, 0, 8, 0, 11, 0, 13, 0]), [1, -11] * 5)
        self.assertEqual(answers([0, 6, 0, 8, 0, 11, 0, 13, 0]), [1, 0, 1, -2, 1, -2, 1, -2, 1, 1])

    def test_nothing_is_kept_of_a_line_that_is_none(self):
        # There's no call 27, and the last quantity has no number of marks: this may fail in any way.
        for line in ([0, 1, 1, 27], [0, 1, 1, 1]):
            with contextlib.suppress(Exception):
                answers(line)
            self.assertEqual(answers([12, 26]), [1, -11] * 2)
            self.assertEqual(answers([0, 26]), [1, 0, 4, 0, 0, 0, 1])
            self.assertEqual(answers(LINE), TOLD)

    def test_the_longest_line(self):
        line = [0, 1, 0] + [13, 255] + [LARGEST] * 255
        for n in range(22):
            line += [13, 255] + list(range(255))
        told = answers(line)
        self.assertEqual(told, [1, 0, 1, 0] + [1, -22] * 23)
        line = [0, 1, 0] + ([22, 0, 0, 255] + [0] * 255) * 12 + ([14, 255] + [0] * 255) * 11
        self.assertEqual(answers(line), [1, 0, 1, 0] + [1, -22] * 23)

    def test_the_longest_line_before_a_begin(self):
        # Twenty-five calls of may with 255 numbers each: 6475 numbers.
        line = ([22, 0, 0, 255] + [0] * 255) * 25
        self.assertEqual(len(line), 6475)
        self.assertEqual(answers(line), [1, -11] * 25)

    def test_numbers_within_a_list_are_not_taken_for_calls(self):
        self.assertEqual(answers([0, 13, 3, 0, 0, 0, 12]), [1, 0, 1, -22, 1, 1])
        self.assertEqual(answers([0, 14, 3, 0, 0, 0, 12]), [1, 0, 1, -22, 1, 1])
        self.assertEqual(answers([0, 22, 0, 0, 3, 0, 0, 0, 12]), [1, 0, 1, -2, 1, 1])

    def test_prints_nothing(self):
        out = io.StringIO()
        with contextlib.redirect_stdout(out), contextlib.redirect_stderr(out):
            answers(LINE)
            answers(ASKING_LINE)
        self.assertEqual(out.getvalue(), "")
