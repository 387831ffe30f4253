"""Promise 13: count."""

import unittest

from lines import ALL_OF_400, GREATEST, LEAST, PARTS, count, put, run, shown, ways

KINDS = range(7)


def is_of_kind(kind, parts):
    apart = all(part - behind >= 2 for part, behind in zip(parts, parts[1:]))
    return [True,
            len(set(parts)) == len(parts),
            all(part % 2 == 1 for part in parts),
            apart,
            all(part % 5 in (1, 4) for part in parts),
            apart and 1 not in parts,
            all(part % 5 in (2, 3) for part in parts)][kind]


def row_of(allowed, top):
    """How many ways there are to part each number up to the top into these, each as often as wanted."""
    row = [1] + [0] * top
    for part in allowed:
        for number in range(part, top + 1):
            row[number] += row[number - part]
    return row


def row_of_different(top):
    row = [1] + [0] * top
    for part in range(1, top + 1):
        for number in range(top, part - 1, -1):
            row[number] += row[number - part]
    return row


def row_of_apart(top, least):
    """Of k parts that are two apart, least, least + 2, ... can be taken off; what is left is any k or fewer."""
    row = [0] * (top + 1)
    for k in range(top + 1):
        taken = sum(least + 2 * place for place in range(k))
        if taken > top:
            return row
        for number, found in enumerate(row_of(range(1, k + 1), top - taken)):
            row[taken + number] += found
    return row


def rows(top):
    parts = range(1, top + 1)
    return [row_of(parts, top),
            row_of_different(top),
            row_of([part for part in parts if part % 2], top),
            row_of_apart(top, 1),
            row_of([part for part in parts if part % 5 in (1, 4)], top),
            row_of_apart(top, 2),
            row_of([part for part in parts if part % 5 in (2, 3)], top)]


class Count(unittest.TestCase):
    def counts(self, kind, numbers):
        """What is told of these numbers, in lists of at most 400 calls."""
        told = []
        for first in range(0, len(numbers), 200):
            told += run(*[count(n, kind) for n in numbers[first:first + 200]])
        self.assertEqual({(len(answer), answer[0]) for answer in told}, {(2, 0)})
        return [answer[1] for answer in told]

    def refused(self, n, kind):
        told = run(put([4, 1]), count(n, kind), PARTS, count(3, 0))
        self.assertEqual(told, [[5], [-1], shown([4, 1]), [0, 3]], (n, kind))

    def test_n_0(self):
        for kind in KINDS:
            self.assertEqual(run(count(0, kind)), [[0, 1]], kind)

    def test_n_1_to_10(self):
        expected = [[1, 2, 3, 5, 7, 11, 15, 22, 30, 42],
                    [1, 1, 2, 2, 3, 4, 5, 6, 8, 10],
                    [1, 1, 2, 2, 3, 4, 5, 6, 8, 10],
                    [1, 1, 1, 2, 2, 3, 3, 4, 5, 6],
                    [1, 1, 1, 2, 2, 3, 3, 4, 5, 6],
                    [0, 1, 1, 1, 1, 2, 2, 3, 3, 4],
                    [0, 1, 1, 1, 1, 2, 2, 3, 3, 4]]
        for kind in KINDS:
            self.assertEqual(self.counts(kind, range(1, 11)), expected[kind], kind)

    def test_against_all_ways_listed(self):
        for number in range(23):
            listed = ways(number)
            for kind in KINDS:
                expected = sum(1 for parts in listed if is_of_kind(kind, parts))
                self.assertEqual(run(count(number, kind)), [[0, expected]], (number, kind))

    def test_n_400(self):
        self.assertEqual(run(count(400, 0)), [[0, ALL_OF_400]])

    def test_every_number(self):
        for kind, row in enumerate(rows(400)):
            self.assertEqual(self.counts(kind, range(401)), row, kind)
            backward = range(400, -1, -1)
            self.assertEqual(self.counts(kind, backward), row[::-1], kind)

    def test_as_many_of_one_kind_as_of_another(self):
        for one, other in ((1, 2), (3, 4), (5, 6)):
            self.assertEqual(self.counts(one, range(401)), self.counts(other, range(401)))

    def test_kinds_in_turn(self):
        told = run(*[count(n, kind) for n in (30, 7, 60, 0) for kind in (6, 0, 5, 1, 4, 2, 3)])
        table = rows(60)
        self.assertEqual(told, [[0, table[kind][n]] for n in (30, 7, 60, 0) for kind in (6, 0, 5, 1, 4, 2, 3)])

    def test_n_outside_0_to_400(self):
        for n in (-1, 401, -2, 402, -400, LEAST, GREATEST):
            for kind in KINDS:
                self.refused(n, kind)

    def test_another_kind(self):
        for kind in (-1, 7, -2, -7, 8, LEAST, GREATEST):
            for n in (0, 1, 10, 400):
                self.refused(n, kind)

    def test_both_wrong(self):
        self.refused(-1, -1)
        self.refused(401, 7)

    def test_it_changes_nothing(self):
        for kind in KINDS:
            told = run(put([4, 2, 2]), count(30, kind), PARTS, count(30, kind))
            self.assertEqual(told[2], shown([4, 2, 2]))
            self.assertEqual(told[1], told[3])


if __name__ == "__main__":
    unittest.main()
