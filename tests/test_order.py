"""Promises 10 to 12: next, place, at."""

import unittest

from lines import (ABOUT, ALL_OF_400, GREATEST, LEAST, NEXT, PARTS, PLACE, all_ways_up_to, at, put, read, run, shown,
                   ways)

TOP = 2 ** 64 - 1


def in_order(number):
    """All ways to part the number: one is before another if it has the greater part where they first differ."""
    return sorted(ways(number), reverse=True)


class Next(unittest.TestCase):
    def steps(self, before, behind):
        self.assertEqual(run(put(before), NEXT, PARTS), [[sum(before)], [1], shown(behind)], before)

    def stays(self, parts):
        told = run(put(parts), NEXT, PARTS, NEXT, PARTS)
        self.assertEqual(told, [[sum(parts)], [0], shown(parts), [0], shown(parts)], parts)

    def test_no_parts(self):
        self.stays([])
        self.assertEqual(run(NEXT, PARTS), [[0], shown([])])

    def test_ones_alone(self):
        for number in (1, 2, 3, 10, 399, 400):
            self.stays([1] * number)

    def test_some_steps(self):
        self.steps([2], [1, 1])
        self.steps([4], [3, 1])
        self.steps([3, 1], [2, 2])
        self.steps([2, 2], [2, 1, 1])
        self.steps([5, 4, 1, 1], [5, 3, 3])
        self.steps([4, 4, 1, 1, 1, 1], [4, 3, 3, 2])
        self.steps([3, 2, 1, 1], [3, 1, 1, 1, 1])

    def test_steps_at_sum_400(self):
        self.steps([400], [399, 1])
        self.steps([399, 1], [398, 2])
        self.steps([201] + [1] * 199, [200, 200])
        self.steps([200, 200], [200, 199, 1])
        self.steps([3] + [1] * 397, [2] * 200)
        self.steps([4] + [1] * 396, [3] * 133 + [1])
        self.steps([2] * 200, [2] * 199 + [1, 1])
        self.steps([2] + [1] * 398, [1] * 400)

    def test_through_all_ways_to_part_small_numbers(self):
        for number in range(13):
            expected = in_order(number)
            line = [put([number] if number else [])]
            for way in expected:
                line += [PARTS, NEXT]
            told = run(*line, PARTS)
            self.assertEqual([read(answer) for answer in told[1:-1:2]], expected)
            self.assertEqual(told[2:-1:2], [[1]] * (len(expected) - 1) + [[0]])
            self.assertEqual(told[-1], shown([1] * number))

    def test_each_step_by_itself(self):
        for number in range(18):
            expected = in_order(number)
            for before, behind in zip(expected, expected[1:]):
                self.steps(before, behind)


class Place(unittest.TestCase):
    def stands(self, parts, place):
        told = run(put(parts), PLACE, PARTS, PLACE)
        self.assertEqual(told, [[sum(parts)], [0, place], shown(parts), [0, place]], parts)

    def test_no_parts(self):
        self.stands([], 0)
        self.assertEqual(run(PLACE, PARTS), [[0, 0], shown([])])

    def test_the_first_way(self):
        for number in (1, 2, 3, 64, 399, 400):
            self.stands([number], 0)

    def test_through_all_ways_to_part_small_numbers(self):
        for number in range(17):
            for place, parts in enumerate(in_order(number)):
                self.stands(parts, place)

    def test_at_sum_400(self):
        self.stands([399, 1], 1)
        self.stands([398, 2], 2)
        self.stands([398, 1, 1], 3)
        self.stands([1] * 400, ALL_OF_400 - 1)
        self.stands([2] + [1] * 398, ALL_OF_400 - 2)
        self.stands([2, 2] + [1] * 396, ALL_OF_400 - 3)
        self.stands([2] * 200, ALL_OF_400 - 201)
        self.stands([3] + [1] * 397, ALL_OF_400 - 202)

    def test_it_grows_by_one_with_each_next(self):
        for parts in ([400], [250, 100, 50], [20] * 20, [90, 80, 70, 60, 50, 40, 10], [3] * 133 + [1]):
            told = run(put(parts), *[PLACE, NEXT] * 190, PLACE)
            places = [answer[1] for answer in told[1::2]]
            self.assertEqual(places, list(range(places[0], places[0] + 191)))
            self.assertEqual(told[2::2], [[1]] * 190)


class At(unittest.TestCase):
    def brings(self, n, k, parts):
        told = run(put([3, 3, 1]), at(n, k), PARTS, PLACE)
        self.assertEqual(told, [[7], [len(parts)], shown(parts), [0, k]], (n, k))

    def refused(self, n, k):
        for before in ([], [5, 3, 3, 1], [1] * 400):
            told = run(put(before), at(n, k), PARTS)
            self.assertEqual(told, [[sum(before)], [-1], shown(before)], (n, k))

    def test_n_0(self):
        self.brings(0, 0, [])
        self.assertEqual(run(at(0, 0), PARTS), [[0], shown([])])
        self.refused(0, 1)
        self.refused(0, TOP)

    def test_all_ways_to_part_small_numbers(self):
        for number in range(17):
            expected = in_order(number)
            for place, parts in enumerate(expected):
                self.brings(number, place, parts)
            self.refused(number, len(expected))
            self.refused(number, len(expected) + 1)
            self.refused(number, TOP)

    def test_n_400(self):
        self.brings(400, 0, [400])
        self.brings(400, 1, [399, 1])
        self.brings(400, 3, [398, 1, 1])
        self.brings(400, ALL_OF_400 - 1, [1] * 400)
        self.brings(400, ALL_OF_400 - 2, [2] + [1] * 398)
        self.brings(400, ALL_OF_400 - 201, [2] * 200)
        self.refused(400, ALL_OF_400)
        self.refused(400, ALL_OF_400 + 1)
        self.refused(400, TOP)

    def test_and_then_place_brings_back_k(self):
        for n in (1, 50, 137, 256, 399, 400):
            total = run(put([1] * n), PLACE)[1][1] + 1
            places = [total * share // 97 for share in range(97)] + [total - 1]
            told = run(*[call for k in places for call in (at(n, k), PLACE, PARTS, ABOUT)])
            for k in places:
                parts = read(told[2])
                self.assertEqual(told[:2], [[len(parts)], [0, k]])
                self.assertEqual(parts, sorted(parts, reverse=True))
                self.assertEqual((sum(parts), told[3][1]), (n, n))
                told = told[4:]

    def test_n_outside_0_to_400(self):
        for n in (-1, 401, -2, 402, -400, LEAST, GREATEST):
            for k in (0, 1, 5, TOP):
                self.refused(n, k)

    def test_k_is_looked_at_as_a_whole(self):
        # A k that would be a place if it were cut to 32 or 63 bits.
        for k in (2 ** 32, 2 ** 63, 2 ** 63 + 1, 2 ** 64 - 2):
            self.refused(20, k)
        self.refused(400, 2 ** 63)
        self.refused(400, 2 ** 64 - 2)

    def test_several_numbers_in_one_list(self):
        told = run(at(5, 1), PARTS, at(400, 1), PARTS, at(3, 1), PARTS, at(7, 14), PARTS, at(7, 15), PARTS, at(3, 3))
        expected = [[4, 1], [399, 1], [2, 1], [1] * 7, [1] * 7]
        self.assertEqual([read(answer) for answer in told[1::2]], expected)
        self.assertEqual(told[0::2], [[2], [2], [2], [7], [-1], [-1]])

    def test_what_it_brings_is_there_for_other_calls(self):
        for parts in all_ways_up_to(8):
            place = run(put(parts), PLACE)[1][1]
            self.assertEqual(run(at(sum(parts), place), ABOUT)[1], run(put(parts), ABOUT)[1])


if __name__ == "__main__":
    unittest.main()
