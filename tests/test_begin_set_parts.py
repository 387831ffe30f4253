"""Promises 1 to 3: begin, set, parts."""

import unittest

from lines import ABOUT, BEGIN, PARTS, SPLIT, TURN, all_ways_up_to, put, run, shown


class Begin(unittest.TestCase):
    def test_a_new_object_has_no_parts(self):
        self.assertEqual(run(PARTS, ABOUT), [shown([]), [0, 0, 0, 0, 0, 0]])

    def test_begin_behind_other_calls_brings_no_parts(self):
        told = run(put([3, 2]), TURN, PARTS, BEGIN, PARTS, ABOUT)
        self.assertEqual(told, [[5], [0], shown([2, 2, 1]), [0], shown([]), [0, 0, 0, 0, 0, 0]])

    def test_begin_behind_begin_and_behind_refusals(self):
        told = run(BEGIN, PARTS, put([2, 2]), SPLIT, put([0]), BEGIN, BEGIN, PARTS)
        self.assertEqual(told, [[0], shown([]), [4], [-2], [-1], [0], [0], shown([])])

    def test_what_is_set_behind_a_second_begin_is_there(self):
        self.assertEqual(run(put([9]), BEGIN, put([4, 1]), PARTS), [[9], [0], [5], shown([4, 1])])


class Set(unittest.TestCase):
    def taken(self, parts):
        self.assertEqual(run(put(parts), PARTS, PARTS), [[sum(parts)], shown(parts), shown(parts)])

    def refused(self, numbers):
        for before in ([], [5, 3, 3, 1], [400]):
            told = run(put(before), put(numbers), PARTS)
            self.assertEqual(told, [[sum(before)], [-1], shown(before)], (before, numbers))

    def test_every_way_to_part_small_numbers(self):
        for parts in all_ways_up_to(9):
            self.taken(parts)

    def test_the_edges(self):
        for parts in ([], [1], [400], [1] * 400, [399, 1], [200, 200], [2] * 200, list(range(27, 0, -1))):
            self.taken(parts)

    def test_none_behind_some(self):
        self.assertEqual(run(put([7, 7]), put([]), PARTS), [[14], [0], shown([])])

    def test_parts_take_the_place_of_those_before(self):
        self.assertEqual(run(put([7, 7, 2]), put([3]), PARTS), [[16], [3], shown([3])])

    def test_a_0_among_them(self):
        for numbers in ([0], [0, 0], [0, 3, 2], [3, 0, 2], [3, 0, 0], [3, 2, 0], [400, 0], [0] * 400, [1] * 399 + [0]):
            self.refused(numbers)

    def test_a_part_greater_than_the_one_before(self):
        for numbers in ([1, 2], [3, 4, 1], [3, 1, 2], [5, 5, 6], [1] * 398 + [2], [1, 399], [4, 2, 1, 3]):
            self.refused(numbers)

    def test_a_sum_above_400(self):
        for numbers in ([401], [400, 1], [201, 200], [2] + [1] * 399, [2] * 201, [400] * 400):
            self.assertGreater(sum(numbers), 400)
            self.refused(numbers)

    def test_parts_as_great_as_they_may_be_handed_in(self):
        for numbers in ([4294967295], [4294967295] * 2, [4294967295] * 400, [4294967295, 1], [1, 4294967295],
                        [4294967295, 401], [2147483648, 2147483648], [2147483648], [4294967295, 0]):
            self.refused(numbers)

    def test_parts_can_be_set_behind_a_refusal(self):
        self.assertEqual(run(put([0]), put([2, 1]), PARTS), [[-1], [3], shown([2, 1])])


class Parts(unittest.TestCase):
    def test_401_numbers_always(self):
        for parts in ([], [1], [400], [3, 3, 1], [2] * 200, [1] * 399, [1] * 400):
            answer = run(put(parts), PARTS)[1]
            self.assertEqual(len(answer), 401)
            self.assertEqual(answer[0], len(parts))
            self.assertEqual(answer[1:len(parts) + 1], parts)
            self.assertEqual(answer[len(parts) + 1:], [0] * (400 - len(parts)))

    def test_it_changes_nothing(self):
        self.assertEqual(run(put([6, 1]), PARTS, PARTS, ABOUT)[3], [0, 7, 6, 4, 0, 1])


if __name__ == "__main__":
    unittest.main()
