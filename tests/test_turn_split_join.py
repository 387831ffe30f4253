"""Promises 5 to 7: turn, split, join."""

import unittest

from lines import ABOUT, JOIN, PARTS, SPLIT, TURN, all_ways_up_to, put, run, shown, ways


class Moves(unittest.TestCase):
    def becomes(self, call, before, behind):
        told = run(put(before), call, PARTS)
        self.assertEqual(told, [[sum(before)], [0], shown(behind)], before)

    def refused(self, call, before):
        told = run(put(before), call, PARTS, call, PARTS)
        self.assertEqual(told, [[sum(before)], [-2], shown(before), [-2], shown(before)], before)


class Turn(Moves):
    def test_no_parts(self):
        self.becomes(TURN, [], [])
        self.assertEqual(run(TURN, PARTS), [[0], shown([])])

    def test_some_parts(self):
        self.becomes(TURN, [1], [1])
        self.becomes(TURN, [4, 2, 1], [3, 2, 1, 1])
        self.becomes(TURN, [3, 3], [2, 2, 2])
        self.becomes(TURN, [5, 1, 1], [3, 1, 1, 1, 1])

    def test_the_longest(self):
        self.becomes(TURN, [400], [1] * 400)
        self.becomes(TURN, [1] * 400, [400])
        self.becomes(TURN, [200, 200], [2] * 200)

    def test_every_way_to_part_small_numbers(self):
        for parts in all_ways_up_to(11):
            expected = [sum(1 for part in parts if part >= k) for k in range(1, max(parts, default=0) + 1)]
            self.becomes(TURN, parts, expected)

    def test_turned_again_they_are_as_at_first(self):
        for parts in all_ways_up_to(9) + [[400], [1] * 400, [20] * 20, [150, 100, 100, 49, 1]]:
            told = run(put(parts), ABOUT, TURN, ABOUT, TURN, PARTS)
            self.assertEqual(told[5], shown(parts))
            self.assertEqual((told[1][3] + told[3][3]) % 2 ** 32, 0)


class Split(Moves):
    def test_no_parts(self):
        self.becomes(SPLIT, [], [])

    def test_brought_into_order(self):
        self.becomes(SPLIT, [6, 5], [5, 3, 3])
        self.becomes(SPLIT, [8, 7, 6, 1], [7, 3, 3] + [1] * 9)
        self.becomes(SPLIT, [12, 10, 3], [5, 5, 3, 3, 3, 3, 3])

    def test_odd_already(self):
        self.becomes(SPLIT, [1], [1])
        self.becomes(SPLIT, [9, 5, 3, 1], [9, 5, 3, 1])
        self.becomes(SPLIT, [399, 1], [399, 1])

    def test_powers_of_two(self):
        self.becomes(SPLIT, [2], [1, 1])
        self.becomes(SPLIT, [256], [1] * 256)
        self.becomes(SPLIT, [256, 128, 16], [1] * 400)
        self.becomes(SPLIT, [400], [25] * 16)

    def test_not_all_different(self):
        for parts in ([1, 1], [2, 2], [5, 5, 3], [5, 3, 3], [6, 4, 4, 1], [9, 1, 1], [1] * 400, [200, 200]):
            self.refused(SPLIT, parts)

    def test_every_way_to_part_small_numbers(self):
        for number in range(14):
            odd = set()
            different = [way for way in ways(number) if len(set(way)) == len(way)]
            for parts in ways(number):
                if parts not in different:
                    self.refused(SPLIT, parts)
            for parts in different:
                answer = run(put(parts), SPLIT, PARTS)[2]
                behind = answer[1:answer[0] + 1]
                self.assertEqual(behind, sorted(behind, reverse=True))
                self.assertEqual(sum(behind), number)
                self.assertTrue(all(part % 2 for part in behind))
                odd.add(tuple(behind))
            self.assertEqual(odd, {tuple(way) for way in ways(number) if all(part % 2 for part in way)})


class Join(Moves):
    def test_no_parts(self):
        self.becomes(JOIN, [], [])

    def test_parts_that_stand_once(self):
        self.becomes(JOIN, [1], [1])
        self.becomes(JOIN, [9, 5, 3], [9, 5, 3])
        self.becomes(JOIN, [399, 1], [399, 1])

    def test_parts_that_stand_many_times(self):
        self.becomes(JOIN, [1, 1], [2])
        self.becomes(JOIN, [3, 3, 3], [6, 3])
        self.becomes(JOIN, [1] * 400, [256, 128, 16])
        self.becomes(JOIN, [25] * 16, [400])
        self.becomes(JOIN, [3] * 133, [384, 12, 3])

    def test_brought_into_order(self):
        self.becomes(JOIN, [5, 3, 3], [6, 5])
        self.becomes(JOIN, [7, 3, 3] + [1] * 9, [8, 7, 6, 1])
        self.becomes(JOIN, [5, 3] + [1] * 7, [5, 4, 3, 2, 1])

    def test_not_all_odd(self):
        for parts in ([2], [400], [4, 3], [5, 4, 3], [5, 3, 2], [3, 2, 1, 1], [2] * 200, [7, 2, 2]):
            self.refused(JOIN, parts)

    def test_every_way_to_part_small_numbers(self):
        for number in range(14):
            different = set()
            for parts in ways(number):
                if not all(part % 2 for part in parts):
                    self.refused(JOIN, parts)
                    continue
                answer = run(put(parts), JOIN, PARTS, SPLIT, PARTS)
                self.assertEqual(answer[4], shown(parts))
                behind = answer[2][1:answer[2][0] + 1]
                self.assertEqual(behind, sorted(behind, reverse=True))
                different.add(tuple(behind))
            self.assertEqual(different, {tuple(way) for way in ways(number) if len(set(way)) == len(way)})

    def test_split_and_then_join_brings_back_what_was_there(self):
        longest = [list(range(27, 0, -1))]
        for parts in all_ways_up_to(16) + longest + [[400], [256, 144], [300, 64, 32, 4]]:
            if len(set(parts)) == len(parts):
                told = run(put(parts), SPLIT, JOIN, PARTS)
                self.assertEqual(told, [[sum(parts)], [0], [0], shown(parts)])


if __name__ == "__main__":
    unittest.main()
