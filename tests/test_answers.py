"""The interface: partings.parts.answers, its list of calls and the list that it gives back."""

import contextlib
import io
import unittest

from lines import ABOUT, BEGIN, JOIN, PARTS, SPLIT, TURN, put, shown
from partings.parts import answers


def refuse_change(self, *given):
    raise AssertionError("the list that was handed in is changed")


class Unchanging(list):
    append = extend = insert = pop = remove = clear = sort = reverse = refuse_change
    __setitem__ = __delitem__ = __iadd__ = __imul__ = refuse_change


# 4+2+1 turned is 3+2+1+1, neither all different nor all odd; turned back it splits into seven ones.
LINE = BEGIN + put([4, 2, 1]) + ABOUT + TURN + PARTS + put([2, 0]) + SPLIT + JOIN + TURN + SPLIT + ABOUT + BEGIN + ABOUT
TOLD = ([1, 0, 1, 7]
        + [6, 0, 7, 4, 1, 1, 2]
        + [1, 0]
        + [401, 4, 3, 2, 1, 1] + [0] * 396
        + [1, -1, 1, -2, 1, -2, 1, 0, 1, 0]
        + [6, 0, 7, 1, 4294967290, 4294967289, 1]
        + [1, 0]
        + [6, 0, 0, 0, 0, 0, 0])


class Answers(unittest.TestCase):
    def test_no_calls(self):
        self.assertEqual(answers([]), [])

    def test_each_call_alone(self):
        self.assertEqual(answers([0]), [1, 0])
        self.assertEqual(answers([0, 1, 0]), [1, 0, 1, 0])
        self.assertEqual(answers([0, 1, 3, 3, 2, 2]), [1, 0, 1, 7])
        self.assertEqual(answers([0, 2]), [1, 0, 401] + [0] * 401)
        self.assertEqual(answers([0, 3]), [1, 0, 6, 0, 0, 0, 0, 0, 0])
        for call in (4, 5, 6):
            self.assertEqual(answers([0, call]), [1, 0, 1, 0])

    def test_a_refusal_is_its_number_alone(self):
        self.assertEqual(answers([0, 1, 1, 0]), [1, 0, 1, -1])
        self.assertEqual(answers([0, 1, 2, 2, 2, 5]), [1, 0, 1, 4, 1, -2])
        self.assertEqual(answers([0, 1, 1, 2, 6]), [1, 0, 1, 2, 1, -2])

    def test_several_calls_in_one_list(self):
        self.assertEqual(answers(LINE), TOLD)

    def test_a_refused_row_is_passed_over_whole(self):
        self.assertEqual(answers([0, 1, 4, 0, 4, 5, 6, 3]), [1, 0, 1, -1, 6, 0, 0, 0, 0, 0, 0])

    def test_the_list_handed_in_stays_as_it_was(self):
        line = Unchanging(LINE)
        self.assertEqual(answers(line), TOLD)
        self.assertEqual(list(line), LINE)

    def test_what_is_given_back_is_a_new_list_of_whole_numbers(self):
        first = answers(LINE)
        self.assertIs(type(first), list)
        self.assertEqual({type(number) for number in first}, {int})
        first.clear()
        self.assertEqual(answers(LINE), TOLD)

    def test_nothing_is_kept_from_one_time_to_the_next(self):
        self.assertEqual(answers(LINE), TOLD)
        answers(BEGIN + put([9, 9]))
        self.assertEqual(answers(LINE), TOLD)
        self.assertEqual(answers(BEGIN + PARTS), [1, 0, 401] + shown([]))

    def test_nothing_is_printed(self):
        with contextlib.redirect_stdout(io.StringIO()) as out, contextlib.redirect_stderr(io.StringIO()) as err:
            answers(LINE)
        self.assertEqual((out.getvalue(), err.getvalue()), ("", ""))

    def test_the_longest_lists(self):
        turns = BEGIN + put([200] + [1] * 200) + TURN * 397 + PARTS
        self.assertEqual(answers(turns), [1, 0, 1, 400] + [1, 0] * 397 + [401] + shown([201] + [1] * 199))
        there_and_back = BEGIN + put([256, 128, 16]) + (SPLIT + JOIN) * 198 + PARTS + ABOUT
        told = answers(there_and_back)
        self.assertEqual(told[:-409], [1, 0, 1, 400] + [1, 0] * 396)
        self.assertEqual(told[-409:], [401] + shown([256, 128, 16]) + [6, 0, 400, 256, 253, 256, 3])
        sets = BEGIN + put([10] * 38) * 399
        self.assertLessEqual(len(sets), 16000)
        self.assertEqual(answers(sets), [1, 0] + [1, 380] * 399)


if __name__ == "__main__":
    unittest.main()
