"""Promise 9: core."""

import unittest

from lines import ABOUT, GREATEST, LEAST, PARTS, all_ways_up_to, core, put, read, run, shown


def rims(parts, t):
    """What is left of the parts when a rim of t squares is taken off, in every way that this can be done."""
    hooks = [part + len(parts) - 1 - place for place, part in enumerate(parts)]
    for hook in hooks:
        if hook >= t and hook - t not in hooks:
            others = sorted([other for other in hooks if other != hook] + [hook - t], reverse=True)
            yield [part for part in (other - len(hooks) + 1 + place for place, other in enumerate(others)) if part]


def core_by_rims(parts, t):
    """The core and its weight, found by taking off rims of t squares as long as there is one."""
    weight = 0
    left = list(parts)
    while True:
        found = list(rims(left, t))
        if not found:
            return left, weight
        left = found[-1]
        weight += 1


def hooks_of_all_squares(parts):
    columns = [sum(1 for part in parts if part > place) for place in range(max(parts, default=0))]
    return [parts[row] - column + columns[column] - row - 1
            for row in range(len(parts)) for column in range(parts[row])]


class Core(unittest.TestCase):
    def becomes(self, before, t, behind, weight):
        told = run(put(before), core(t), PARTS, core(t), PARTS)
        self.assertEqual(told, [[sum(before)], [weight], shown(behind), [0], shown(behind)], (before, t))

    def refused(self, before, t):
        self.assertEqual(run(put(before), core(t), PARTS), [[sum(before)], [-1], shown(before)], (before, t))

    def test_no_parts(self):
        for t in range(1, 65):
            self.becomes([], t, [], 0)
        self.assertEqual(run(core(3), PARTS), [[0], shown([])])

    def test_some_parts(self):
        # The hooks 9, 6, 1 become 5, 2, 1.
        self.becomes([7, 5, 1], 4, [3, 1, 1], 2)
        # The hooks 8, 6, 3, 1 become 3, 2, 1, 0.
        self.becomes([5, 4, 2, 1], 3, [], 4)
        # The hooks 5, 2 become 2, 0.
        self.becomes([4, 2], 5, [1], 1)
        self.becomes([2], 2, [], 1)
        self.becomes([2, 2], 2, [], 2)
        self.becomes([20] * 20, 7, [1], 57)

    def test_cores_already(self):
        self.becomes([1], 2, [1], 0)
        self.becomes([3, 2, 1], 2, [3, 2, 1], 0)
        self.becomes([5, 3, 1], 3, [5, 3, 1], 0)
        self.becomes(list(range(27, 0, -1)), 2, list(range(27, 0, -1)), 0)

    def test_by_1(self):
        for parts in all_ways_up_to(9) + [[400], [1] * 400, [20] * 20, [200, 150, 50]]:
            self.becomes(parts, 1, [], sum(parts))

    def test_by_64(self):
        self.becomes([64], 64, [], 1)
        self.becomes([63], 64, [63], 0)
        self.becomes([65], 64, [1], 1)
        self.becomes([400], 64, [16], 6)
        self.becomes([1] * 400, 64, [1] * 16, 6)
        self.becomes([32] + [1] * 32, 64, [], 1)

    def test_by_more_than_every_hook(self):
        for parts in ([1], [63], [1] * 63, [30, 20, 10], [32] + [1] * 31, [10] * 40):
            greatest = parts[0] + len(parts) - 1
            self.assertLess(greatest, 64)
            for t in range(greatest + 1, 65):
                self.becomes(parts, t, parts, 0)
            # One hook is t: that is no longer more than every hook.
            self.assertEqual(run(put(parts), core(greatest))[1], [1])

    def test_every_way_to_part_small_numbers(self):
        for parts in all_ways_up_to(11):
            for t in list(range(1, 14)) + [64]:
                self.becomes(parts, t, *core_by_rims(parts, t))

    def test_great_sums(self):
        for parts in ([400], [1] * 400, [20] * 20, [200, 150, 50], list(range(27, 0, -1)), [100] + [3] * 100,
                      [90, 80, 70, 60, 50, 40, 10], [37, 31, 31, 31, 29, 17, 17, 5, 5, 5, 2, 2, 1]):
            for t in range(1, 65):
                self.becomes(parts, t, *core_by_rims(parts, t))

    def test_no_hook_of_a_core_is_a_multiple_and_the_weight_counts_those_that_were(self):
        for parts in all_ways_up_to(10) + [[37, 31, 31, 31, 29, 17, 17, 5, 5, 5, 2, 2, 1]]:
            for t in (2, 3, 5, 7):
                told = run(put(parts), core(t), PARTS)
                behind = read(told[2])
                self.assertEqual([hook for hook in hooks_of_all_squares(behind) if hook % t == 0], [])
                multiples = [hook for hook in hooks_of_all_squares(parts) if hook % t == 0]
                self.assertEqual(told[1], [len(multiples)])

    def test_one_core_behind_another(self):
        told = run(put([9, 7, 4, 4, 1]), core(5), PARTS, core(3), PARTS, core(65), ABOUT)
        first, second = core_by_rims([9, 7, 4, 4, 1], 5)
        third, fourth = core_by_rims(first, 3)
        self.assertEqual(told[1:5], [[second], shown(first), [fourth], shown(third)])
        self.assertEqual(told[5], [-1])
        self.assertEqual(told[6][1], sum(third))

    def test_t_outside_1_to_64(self):
        for t in (0, 65, -1, -2, -64, 66, 128, LEAST, GREATEST, LEAST + 1, GREATEST - 1):
            for parts in ([], [1], [5, 4, 2, 1], [400], [1] * 400):
                self.refused(parts, t)


if __name__ == "__main__":
    unittest.main()
