"""The interface: partings.parts.answers, its list of calls and the list that it gives back."""

import contextlib
import io
import unittest

from lines import (ABOUT, ALL_OF_400, BEGIN, GREATEST, JOIN, LEAST, MOVE, NEXT, PARTS, PLACE, SPLIT, TURN, at, core,
                   count, cut, put, residue, run, shown)
from partings.parts import answers


def refuse_change(self, *given):
    raise AssertionError("the list that was handed in is changed")


class Unchanging(list):
    append = extend = insert = pop = remove = clear = sort = reverse = refuse_change
    __setitem__ = __delitem__ = __iadd__ = __imul__ = refuse_change


# 4+2+1 turned is 3+2+1+1, neither all different nor all odd; turned back it splits into seven ones.
LINE = BEGIN + put([4, 2, 1]) + ABOUT + TURN + PARTS + put([2, 0]) + SPLIT + JOIN + TURN + SPLIT + ABOUT + BEGIN + ABOUT
TOLD = ([1, 0, 1, 7]
        + [6, 0, 7, 4, 1, 1, 2]
        + [1, 0]
        + [401, 4, 3, 2, 1, 1] + [0] * 396
        + [1, -1, 1, -2, 1, -2, 1, 0, 1, 0]
        + [6, 0, 7, 1, 4294967290, 4294967289, 1]
        + [1, 0]
        + [6, 0, 0, 0, 0, 0, 0])

# All fourteen calls, some of them refused.
MIXED = [(BEGIN, [0]),
         (put([5, 4, 1]), [10]),
         (MOVE, [1]),
         (PARTS, shown([6, 4])),
         (ABOUT, [0, 10, 6, 4, 6, 2]),
         (PLACE, [0, 7]),
         (NEXT, [1]),
         (PARTS, shown([6, 3, 1])),
         (PLACE, [0, 8]),
         (core(65), [-1]),
         (SPLIT, [0]),
         (PARTS, shown([3, 3, 3, 1])),
         (MOVE, [-2]),
         (JOIN, [0]),
         (PARTS, shown([6, 3, 1])),
         (count(5, 1), [0, 3]),
         (residue(1, 4, 2, 5), [0, 1]),
         (core(4), [2]),
         (PARTS, shown([2])),
         (TURN, [0]),
         (PARTS, shown([1, 1])),
         (put([3, 2, 1]), [6]),
         (MOVE, [1]),
         (PARTS, shown([4, 2])),
         (at(401, 0), [-1]),
         (at(6, 11), [-1]),
         (count(5, 7), [-1]),
         (residue(0, 4, 5, 5), [-1]),
         (JOIN, [-2]),
         (PARTS, shown([4, 2])),
         (at(6, 10), [6]),
         (NEXT, [0]),
         (SPLIT, [-2]),
         (put([1, 2]), [-1]),
         (ABOUT, [0, 6, 1, 4294967291, 4294967290, 1]),
         (BEGIN, [0]),
         (MOVE, [0]),
         (NEXT, [0]),
         (PLACE, [0, 0]),
         (core(1), [0]),
         (at(0, 0), [0]),
         (residue(0, 0, 0, 1), [0, 1]),
         (count(400, 0), [0, ALL_OF_400]),
         (PARTS, shown([]))]
MIXED_LINE = [number for call, answer in MIXED for number in call]
MIXED_TOLD = [number for call, answer in MIXED for number in [len(answer)] + answer]


class Answers(unittest.TestCase):
    def test_no_calls(self):
        self.assertEqual(answers([]), [])

    def test_each_call_alone(self):
        self.assertEqual(answers([0]), [1, 0])
        self.assertEqual(answers([0, 1, 0]), [1, 0, 1, 0])
        self.assertEqual(answers([0, 1, 3, 3, 2, 2]), [1, 0, 1, 7])
        self.assertEqual(answers([0, 2]), [1, 0, 401] + [0] * 401)
        self.assertEqual(answers([0, 3]), [1, 0, 6, 0, 0, 0, 0, 0, 0])
        for call in (4, 5, 6, 7, 9):
            self.assertEqual(answers([0, call]), [1, 0, 1, 0])
        self.assertEqual(answers([0, 8, 3]), [1, 0, 1, 0])
        self.assertEqual(answers([0, 10]), [1, 0, 2, 0, 0])
        self.assertEqual(answers([0, 11, 4, 2]), [1, 0, 1, 2])
        self.assertEqual(answers([0, 12, 5, 0]), [1, 0, 2, 0, 7])
        self.assertEqual(answers([0, 13, 0, 4, 3, 4]), [1, 0, 2, 0, 2])

    def test_a_refusal_is_its_number_alone(self):
        self.assertEqual(answers([0, 1, 1, 0]), [1, 0, 1, -1])
        self.assertEqual(answers([0, 1, 2, 2, 2, 5]), [1, 0, 1, 4, 1, -2])
        self.assertEqual(answers([0, 1, 1, 2, 6]), [1, 0, 1, 2, 1, -2])
        self.assertEqual(answers([0, 1, 2, 2, 2, 7]), [1, 0, 1, 4, 1, -2])
        self.assertEqual(answers([0, 8, 0]), [1, 0, 1, -1])
        self.assertEqual(answers([0, 11, 401, 0]), [1, 0, 1, -1])
        self.assertEqual(answers([0, 12, 3, 7]), [1, 0, 1, -1])
        self.assertEqual(answers([0, 13, 2, 3, 0, 1]), [1, 0, 1, -1])

    def test_several_calls_in_one_list(self):
        self.assertEqual(answers(LINE), TOLD)

    def test_all_fourteen_calls_in_one_list(self):
        self.assertEqual(answers(MIXED_LINE), MIXED_TOLD)
        self.assertEqual({call[0] for call, answer in MIXED}, set(range(14)))

    def test_a_list_may_end_behind_any_call(self):
        for length in range(1, len(MIXED) + 1):
            line = [number for call, answer in MIXED[:length] for number in call]
            self.assertEqual(cut(answers(line)), [answer for call, answer in MIXED[:length]])

    def test_calls_that_only_tell_and_refused_calls_change_nothing(self):
        idle = [PARTS, ABOUT, PLACE, count(9, 0), count(9, 7), count(-1, 0), residue(0, 9, 1, 4), residue(1, 9, 1, 4),
                residue(2, 9, 1, 4), residue(0, 9, 4, 4), core(0), core(65), core(LEAST), core(GREATEST),
                at(401, 0), at(-1, 0), at(5, 7), at(LEAST, 0), at(GREATEST, 2 ** 64 - 1), put([0]), put([3, 4])]
        for parts in ([], [1], [4, 3, 3, 1], [7, 2], [1] * 400, [400]):
            for call in idle:
                told = run(put(parts), call, PARTS, call, PARTS)
                self.assertEqual((told[2], told[4]), (shown(parts), shown(parts)), (parts, call))
                self.assertEqual(told[1], told[3])

    def test_numbers_handed_over_are_not_taken_for_calls(self):
        self.assertEqual(answers([0, 8, 7, 10]), [1, 0, 1, 0, 2, 0, 0])
        self.assertEqual(answers([0, 11, 12, 13, 10]), [1, 0, 1, 3, 2, 0, 13])
        self.assertEqual(answers([0, 12, 9, 6, 10]), [1, 0, 2, 0, 3, 2, 0, 0])
        self.assertEqual(answers([0, 13, 0, 9, 2, 5, 10]), [1, 0, 2, 0, 6, 2, 0, 0])
        self.assertEqual(answers([0, 13, 10, 10, 10, 10, 10]), [1, 0, 1, -1, 2, 0, 0])

    def test_a_refused_row_is_passed_over_whole(self):
        self.assertEqual(answers([0, 1, 4, 0, 4, 5, 6, 3]), [1, 0, 1, -1, 6, 0, 0, 0, 0, 0, 0])

    def test_the_list_handed_in_stays_as_it_was(self):
        for numbers, told in ((LINE, TOLD), (MIXED_LINE, MIXED_TOLD)):
            line = Unchanging(numbers)
            self.assertEqual(answers(line), told)
            self.assertEqual(list(line), numbers)

    def test_what_is_given_back_is_a_new_list_of_whole_numbers(self):
        for numbers, told in ((LINE, TOLD), (MIXED_LINE, MIXED_TOLD)):
            first = answers(numbers)
            self.assertIs(type(first), list)
            self.assertEqual({type(number) for number in first}, {int})
            first.clear()
            self.assertEqual(answers(numbers), told)

    def test_nothing_is_kept_from_one_time_to_the_next(self):
        self.assertEqual(answers(LINE), TOLD)
        answers(BEGIN + put([9, 9]))
        self.assertEqual(answers(LINE), TOLD)
        self.assertEqual(answers(BEGIN + PARTS), [1, 0, 401] + shown([]))
        for again in range(3):
            self.assertEqual(answers(MIXED_LINE), MIXED_TOLD)
            answers(BEGIN + at(400, 5) + count(30, 3) + NEXT)

    def test_nothing_is_printed(self):
        with contextlib.redirect_stdout(io.StringIO()) as out, contextlib.redirect_stderr(io.StringIO()) as err:
            answers(LINE)
            answers(MIXED_LINE)
        self.assertEqual((out.getvalue(), err.getvalue()), ("", ""))

    def test_the_longest_lists(self):
        turns = BEGIN + put([200] + [1] * 200) + TURN * 397 + PARTS
        self.assertEqual(answers(turns), [1, 0, 1, 400] + [1, 0] * 397 + [401] + shown([201] + [1] * 199))
        there_and_back = BEGIN + put([256, 128, 16]) + (SPLIT + JOIN) * 198 + PARTS + ABOUT
        told = answers(there_and_back)
        self.assertEqual(told[:-409], [1, 0, 1, 400] + [1, 0] * 396)
        self.assertEqual(told[-409:], [401] + shown([256, 128, 16]) + [6, 0, 400, 256, 253, 256, 3])
        sets = BEGIN + put([10] * 38) * 399
        self.assertLessEqual(len(sets), 16000)
        self.assertEqual(answers(sets), [1, 0] + [1, 380] * 399)

    def test_the_longest_lists_of_the_other_calls(self):
        moves = BEGIN + put([399, 1]) + MOVE * 397 + PARTS
        self.assertEqual(answers(moves), [1, 0, 1, 400] + [1, 1] * 397 + [401] + shown([400]))
        cores = BEGIN + (put([9, 8, 7]) + core(2)) * 199
        self.assertEqual(answers(cores), [1, 0] + [1, 24, 1, 9] * 199)
        lasts = BEGIN + (at(400, ALL_OF_400 - 1) + PLACE + NEXT) * 133
        self.assertEqual(answers(lasts), [1, 0] + [1, 400, 2, 0, ALL_OF_400 - 1, 1, 0] * 133)
        residues = BEGIN + residue(0, 400, 0, 1) * 200 + residue(1, 400, 0, 1) * 199
        self.assertEqual(answers(residues), [1, 0] + [2, 0, ALL_OF_400] * 399)
        counts = BEGIN + count(400, 0) * 399
        self.assertEqual(answers(counts), [1, 0] + [2, 0, ALL_OF_400] * 399)


if __name__ == "__main__":
    unittest.main()
