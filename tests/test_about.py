"""Promise 4: about."""

import unittest

from lines import ABOUT, PARTS, all_ways_up_to, crank_by_words, put, rank_by_words, run, shown, ways


def about(parts):
    return run(put(parts), ABOUT)[1]


def below_zero(number):
    return 2 ** 32 - number


def square_by_words(parts):
    return max(k for k in range(len(parts) + 1) if sum(1 for part in parts if part >= k) >= k)


class About(unittest.TestCase):
    def test_no_parts(self):
        self.assertEqual(run(ABOUT), [[0, 0, 0, 0, 0, 0]])
        self.assertEqual(about([]), [0, 0, 0, 0, 0, 0])

    def test_parts_without_ones(self):
        self.assertEqual(about([5, 3, 2]), [0, 10, 5, 2, 5, 2])
        self.assertEqual(about([3, 3, 3]), [0, 9, 3, 0, 3, 3])
        self.assertEqual(about([2]), [0, 2, 2, 1, 2, 1])
        self.assertEqual(about([400]), [0, 400, 400, 399, 400, 1])

    def test_parts_with_ones(self):
        self.assertEqual(about([6, 4, 3, 1]), [0, 14, 6, 2, 2, 3])
        self.assertEqual(about([5, 1]), [0, 6, 5, 3, 0, 1])

    def test_the_part_1_alone(self):
        self.assertEqual(about([1]), [0, 1, 1, 0, 4294967295, 1])

    def test_rank_below_0(self):
        self.assertEqual(about([2, 2, 2]), [0, 6, 2, 4294967295, 2, 2])
        self.assertEqual(about([2] * 200), [0, 400, 2, below_zero(198), 2, 2])

    def test_crank_below_0(self):
        self.assertEqual(about([4, 1, 1]), [0, 6, 4, 1, below_zero(1), 1])
        self.assertEqual(about([2, 1, 1, 1]), [0, 5, 2, below_zero(2), below_zero(3), 1])
        self.assertEqual(about([1] * 400), [0, 400, 1, below_zero(399), below_zero(400), 1])

    def test_a_part_equal_to_the_number_of_ones(self):
        # Two ones: the 2 is not greater than that, the 3 is.
        self.assertEqual(about([3, 2, 1, 1]), [0, 7, 3, below_zero(1), below_zero(1), 2])
        self.assertEqual(about([2, 1, 1]), [0, 4, 2, below_zero(1), below_zero(2), 1])
        self.assertEqual(about([3, 3, 1, 1, 1]), [0, 9, 3, below_zero(2), below_zero(3), 2])

    def test_the_square_at_its_edges(self):
        self.assertEqual(about([2, 1])[5], 1)
        self.assertEqual(about([2, 2])[5], 2)
        self.assertEqual(about([3, 3, 2])[5], 2)
        self.assertEqual(about([20] * 20)[5], 20)
        self.assertEqual(about([20] * 19 + [19])[5], 19)
        self.assertEqual(about([21] * 19)[5], 19)

    def test_every_way_to_part_small_numbers(self):
        for parts in all_ways_up_to(13):
            ranks = [number % 2 ** 32 for number in (rank_by_words(parts), crank_by_words(parts))]
            expected = [0, sum(parts), max(parts, default=0)] + ranks + [square_by_words(parts)]
            self.assertEqual(about(parts), expected, parts)

    def test_five_lots_of_the_same_size(self):
        for number in (4, 9, 14):
            for which in (3, 4):
                lots = [0] * 5
                for parts in ways(number):
                    told = about(parts)[which]
                    lots[(told - 2 ** 32 if told >= 2 ** 31 else told) % 5] += 1
                self.assertEqual(lots, [lots[0]] * 5)

    def test_it_changes_nothing(self):
        told = run(put([4, 2, 1]), ABOUT, PARTS, ABOUT)
        self.assertEqual(told[2], shown([4, 2, 1]))
        self.assertEqual(told[1], told[3])


if __name__ == "__main__":
    unittest.main()
