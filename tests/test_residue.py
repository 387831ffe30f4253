"""Promise 14: residue."""

import unittest

from lines import (ALL_OF_400, GREATEST, LEAST, PARTS, count, crank_by_words, put, rank_by_words, residue, run, shown,
                   ways)

RANK = 0
CRANK = 1


def lots(which, n, m):
    """For each r from 0 on, how many are told."""
    told = run(*[residue(which, n, r, m) for r in range(m)])
    if {(len(answer), answer[0]) for answer in told} != {(2, 0)}:
        raise AssertionError(f"refused: {which} {n} {m}")
    return [answer[1] for answer in told]


def lots_listed(which, n, m):
    found = [0] * m
    for parts in ways(n):
        found[(rank_by_words, crank_by_words)[which](parts) % m] += 1
    return found


def turned_by(row, steps):
    return [row[(place - steps) % len(row)] for place in range(len(row))]


def add_part(rows, part, steps):
    """Let this part stand as often as wanted, each time with so many steps."""
    for number in range(part, len(rows)):
        moved = turned_by(rows[number - part], steps)
        rows[number] = [one + other for one, other in zip(rows[number], moved)]


def take_part(rows, part, steps):
    """What add_part did is undone."""
    for number in range(len(rows) - 1, part - 1, -1):
        moved = turned_by(rows[number - part], steps)
        rows[number] = [one - other for one, other in zip(rows[number], moved)]


def no_parts(top, m):
    return [[1] + [0] * (m - 1)] + [[0] * m for number in range(top)]


def ranks_by_squares(top, m):
    """For each number up to the top and each r, how many ranks leave r.

    Beside a way's square and below it are parts up to its side: each one beside it (turned) adds 1 to the
    rank, each one below it takes 1 off.
    """
    found = [[0] * m for number in range(top + 1)]
    rows = no_parts(top, m)
    side = 0
    while side * side <= top:
        if side > 0:
            add_part(rows, side, 1)
            add_part(rows, side, -1)
        for number in range(side * side, top + 1):
            found[number] = [one + other for one, other in zip(found[number], rows[number - side * side])]
        side += 1
    return found


def cranks_by_ones(top, m):
    """For each number up to the top and each r, how many cranks leave r: by how many ones there are."""
    found = no_parts(top, m)
    without_ones = [1] + [0] * top
    for part in range(2, top + 1):
        for number in range(part, top + 1):
            without_ones[number] += without_ones[number - part]
            found[number][part % m] += without_ones[number - part]
    rows = no_parts(top, m)
    for part in range(2, top + 1):
        add_part(rows, part, 1)
    for ones in range(1, top + 1):
        if ones > 1:
            rows = rows[:top + 1 - ones]
            take_part(rows, ones, 1)
            add_part(rows, ones, 0)
        for number in range(ones, top + 1):
            moved = turned_by(rows[number - ones], -ones)
            found[number] = [one + other for one, other in zip(found[number], moved)]
    return found


class Residue(unittest.TestCase):
    def refused(self, which, n, r, m):
        told = run(put([4, 1]), residue(which, n, r, m), PARTS, residue(0, 1, 0, 2))
        self.assertEqual(told, [[5], [-1], shown([4, 1]), [0, 1]], (which, n, r, m))

    def test_n_0(self):
        for which in (RANK, CRANK):
            for m in (1, 2, 3, 64):
                self.assertEqual(lots(which, 0, m), [1] + [0] * (m - 1))

    def test_n_1(self):
        # The rank of 1 is 0, its crank -1.
        for m in (1, 2, 3, 64):
            self.assertEqual(lots(RANK, 1, m), [1] + [0] * (m - 1))
            self.assertEqual(lots(CRANK, 1, m), [0] * (m - 1) + [1])

    def test_n_2(self):
        # Ranks 1 and -1, cranks 2 and -2.
        self.assertEqual(lots(RANK, 2, 5), [0, 1, 0, 0, 1])
        self.assertEqual(lots(CRANK, 2, 5), [0, 0, 1, 1, 0])
        self.assertEqual(lots(RANK, 2, 64), [0, 1] + [0] * 61 + [1])
        self.assertEqual(lots(CRANK, 2, 64), [0, 0, 1] + [0] * 59 + [1, 0])

    def test_n_4(self):
        # Ranks 3, 1, 0, -1, -3; cranks 4, 0, 2, -2, -4.
        self.assertEqual(lots(RANK, 4, 5), [1, 1, 1, 1, 1])
        self.assertEqual(lots(CRANK, 4, 5), [1, 1, 1, 1, 1])
        self.assertEqual(lots(RANK, 4, 4), [1, 2, 0, 2])
        self.assertEqual(lots(CRANK, 4, 4), [3, 0, 2, 0])

    def test_against_all_ways_listed(self):
        for n in range(21):
            for which in (RANK, CRANK):
                for m in (1, 2, 3, 4, 5, 7, 8, 11, 13, 64):
                    self.assertEqual(lots(which, n, m), lots_listed(which, n, m), (which, n, m))

    def test_great_numbers_against_another_count(self):
        for m, counted in ((7, ranks_by_squares), (64, ranks_by_squares), (11, cranks_by_ones)):
            found = counted(400, m)
            which = RANK if counted == ranks_by_squares else CRANK
            for n in list(range(0, 400, 13)) + [399, 400]:
                self.assertEqual(lots(which, n, m), found[n], (which, n, m))

    def test_the_other_count_against_all_ways_listed(self):
        for m in (1, 2, 7, 64):
            ranks = ranks_by_squares(14, m)
            cranks = cranks_by_ones(14, m)
            for n in range(15):
                self.assertEqual(ranks[n], lots_listed(RANK, n, m))
                self.assertEqual(cranks[n], lots_listed(CRANK, n, m))

    def test_over_all_r_they_come_to_all_ways(self):
        for n in (0, 1, 2, 3, 33, 100, 255, 399, 400):
            total = run(count(n, 0))[0][1]
            for which in (RANK, CRANK):
                for m in (1, 2, 3, 10, 63, 64):
                    self.assertEqual(sum(lots(which, n, m)), total, (which, n, m))
        self.assertEqual(lots(RANK, 400, 1), [ALL_OF_400])
        self.assertEqual(lots(CRANK, 400, 1), [ALL_OF_400])

    def test_lots_of_the_same_size(self):
        for which, n, m in ((RANK, 399, 5), (CRANK, 399, 5), (RANK, 397, 7), (CRANK, 397, 7), (CRANK, 391, 11)):
            found = lots(which, n, m)
            self.assertEqual(found, [found[0]] * m)
        self.assertNotEqual(len(set(lots(RANK, 391, 11))), 1)
        self.assertNotEqual(len(set(lots(RANK, 400, 5))), 1)

    def test_as_many_below_0_as_above(self):
        for which in (RANK, CRANK):
            for m in (2, 3, 9, 64):
                found = lots(which, 400, m)
                self.assertEqual(found[1:], found[:0:-1])

    def test_n_outside_0_to_400(self):
        for n in (-1, 401, -2, 402, -400, LEAST, GREATEST):
            for which in (RANK, CRANK):
                self.refused(which, n, 0, 1)
                self.refused(which, n, 2, 5)

    def test_another_which(self):
        for which in (-1, 2, -2, 3, LEAST, GREATEST):
            for n in (0, 1, 10, 400):
                self.refused(which, n, 0, 5)

    def test_m_outside_1_to_64(self):
        for m in (0, 65, -1, -5, 66, LEAST, GREATEST):
            for which in (RANK, CRANK):
                for n in (0, 1, 10, 400):
                    self.refused(which, n, 0, m)
                    self.refused(which, n, -1, m)

    def test_r_outside_0_to_one_less_than_m(self):
        for m in (1, 2, 5, 64):
            for r in (-1, m, m + 1, -m, 2 * m, LEAST, GREATEST):
                for which in (RANK, CRANK):
                    for n in (0, 1, 10):
                        self.refused(which, n, r, m)

    def test_all_wrong(self):
        self.refused(2, 401, 65, 65)
        self.refused(-1, -1, -1, -1)

    def test_it_changes_nothing(self):
        for which in (RANK, CRANK):
            told = run(put([4, 2, 2]), residue(which, 30, 1, 3), PARTS, residue(which, 30, 1, 3))
            self.assertEqual(told[2], shown([4, 2, 2]))
            self.assertEqual(told[1], told[3])


if __name__ == "__main__":
    unittest.main()
