"""Promise 8: move."""

import unittest

from lines import MOVE, PARTS, all_ways_up_to, put, read, run, shown, ways


def moved_by_words(parts):
    """What Franklin's move brings, or None if there is none."""
    if not parts:
        return None
    s = min(parts)
    k = len(parts)
    d = max(length for length in range(1, k + 1)
            if all(parts[place] == parts[0] - place for place in range(length)))
    if s <= d:
        if s == k:
            return None
        behind = parts[:-1]
        for place in range(s):
            behind[place] += 1
        return behind
    if k == d and s == d + 1:
        return None
    behind = list(parts)
    for place in range(d):
        behind[place] -= 1
    return behind + [d]


class Move(unittest.TestCase):
    def moves(self, before, behind):
        total = sum(before)
        self.assertEqual(run(put(before), MOVE, PARTS), [[total], [1], shown(behind)], before)
        self.assertEqual(run(put(behind), MOVE, PARTS), [[total], [1], shown(before)], behind)
        told = run(put(before), MOVE, MOVE, PARTS)
        self.assertEqual(told, [[total], [1], [1], shown(before)], before)

    def stays(self, parts, answer):
        told = run(put(parts), MOVE, PARTS, MOVE, PARTS)
        self.assertEqual(told, [[sum(parts)], [answer], shown(parts), [answer], shown(parts)], parts)

    def test_the_least_is_taken_off(self):
        self.moves([2, 1], [3])
        self.moves([5, 1], [6])
        self.moves([7, 6, 5, 4, 3], [8, 7, 6, 4])
        self.moves([7, 6, 4, 2], [8, 7, 4])
        self.moves([4, 3, 2], [5, 4])
        self.moves([9, 8, 7, 3], [10, 9, 8])

    def test_one_is_put_behind(self):
        self.moves([3], [2, 1])
        self.moves([9, 8, 5], [8, 7, 5, 2])
        self.moves([6, 5, 4, 3], [7, 6, 5])
        self.moves([9, 6, 4], [8, 6, 4, 1])
        self.moves([8, 7, 6], [7, 6, 5, 3])

    def test_great_sums(self):
        self.moves([400], [399, 1])
        self.moves([201, 199], [200, 199, 1])
        self.moves(list(range(27, 0, -1)), [28] + list(range(26, 1, -1)))
        self.moves(list(range(48, 39, -1)), list(range(47, 38, -1)) + [9])
        self.moves(list(range(29, 13, -1)), list(range(30, 16, -1)) + [15])

    def test_no_parts(self):
        self.stays([], 0)
        self.assertEqual(run(MOVE, PARTS), [[0], shown([])])

    def test_one_part(self):
        self.stays([1], 0)
        self.stays([2], 0)
        for part in range(3, 401):
            self.moves([part], [part - 1, 1])

    def test_none_where_the_least_is_as_much_as_there_are_parts(self):
        for k in range(1, 17):
            parts = list(range(2 * k - 1, k - 1, -1))
            self.assertEqual((len(parts), parts[-1]), (k, k))
            self.stays(parts, 0)

    def test_none_where_the_least_is_one_more_than_there_are_parts(self):
        for k in range(1, 16):
            parts = list(range(2 * k, k, -1))
            self.assertEqual((len(parts), parts[-1]), (k, k + 1))
            self.stays(parts, 0)

    def test_near_those_that_have_none(self):
        # The least is as much as there are parts, or one more, but they do not all go down by one.
        self.moves([6, 4, 3], [5, 4, 3, 1])
        self.moves([4, 2], [3, 2, 1])
        self.moves([7, 5, 4], [6, 5, 4, 1])
        self.moves([6, 3], [5, 3, 1])
        self.moves([5, 4], [4, 3, 2])

    def test_not_all_different(self):
        for parts in ([1, 1], [2, 2], [5, 5, 3], [5, 3, 3], [6, 4, 4, 1], [9, 1, 1], [1] * 400, [200, 200]):
            self.stays(parts, -2)

    def test_every_way_to_part_small_numbers(self):
        for parts in all_ways_up_to(20):
            if len(set(parts)) < len(parts):
                self.stays(parts, -2)
            elif moved_by_words(parts) is None:
                self.stays(parts, 0)
            else:
                self.moves(parts, moved_by_words(parts))

    def test_an_even_number_of_parts_becomes_an_odd_one(self):
        for number in range(1, 25):
            alone = 0
            for parts in ways(number):
                if len(set(parts)) == len(parts):
                    told = run(put(parts), MOVE, PARTS)
                    behind = read(told[2])
                    self.assertEqual(sum(behind), number)
                    self.assertEqual(sorted(set(behind), reverse=True), behind)
                    alone += 1 - told[1][0]
                    self.assertEqual(abs(len(behind) - len(parts)), told[1][0])
            self.assertEqual(alone, 1 if number in (1, 2, 5, 7, 12, 15, 22) else 0, number)


if __name__ == "__main__":
    unittest.main()
