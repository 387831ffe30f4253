"""How many ways there are: of each kind, and with a rank or crank that leaves the same rest."""

from partings.words import crank, rank

ALL_WAYS = 0
# By kind: how much less than a part the next one is at least.
GAPS = (0, 1, 0, 2, 0, 2, 0)
# For the rank and for the crank: the numbers of the laws that at_least tells.
FIRST_DROPS = (1, 0)
DROP_GROWTHS = (3, 1)


def may_stand(kind, part):
    if kind == 2:
        return part % 2 == 1
    if kind == 4:
        return part % 5 in (1, 4)
    if kind == 5:
        return part > 1
    if kind == 6:
        return part % 5 in (2, 3)
    return True


def next_row(rows, kind):
    number = len(rows)
    gap = GAPS[kind]
    count = 0
    row = [0]
    for part in range(1, number + 1):
        if may_stand(kind, part):
            rest = number - part
            count += rows[rest][min(rest, max(part - gap, 0))]
        row.append(count)
    return row


class Table:
    # The rows are kept, since each is made from those before it: a row for each number to part,
    # in it for each bound how many ways of the kind have no part above that bound.
    def __init__(self, kind):
        self.kind = kind
        self.rows = [[1]]

    def ways(self, number, most):
        while len(self.rows) <= number:
            self.rows.append(next_row(self.rows, self.kind))
        return self.rows[number][min(most, number)]


def at_least(table, which, number, least):
    """How many of all ways to part the number have a rank (which 0) or a crank (1) of the least or more.

    The number is 2 at least, the least 0 at least. Nothing is listed here, for there are laws in it:
    - a rank of s or more: as many as all ways to part n - (s+1), without those of them of rank s+3 or more;
    - a crank of s or more: as many as all ways to part n - s, without those of them of crank s+1 or more.
    Those that are left out are counted by the same law, so that what is added and taken off takes turns.
    """
    count = 0
    sign = 1
    drop = least + FIRST_DROPS[which]
    rest = number - drop
    while rest >= 0:
        count += sign * table.ways(rest, rest)
        sign = -sign
        drop += DROP_GROWTHS[which]
        rest -= drop
    return count


def with_residue(table, which, number, residue, divisor):
    if number < 2:
        # The law of the rank fails for 0, that of the crank for 1; there is one way alone, of ones.
        parts = [1] * number
        told = rank(parts) if which == 0 else crank(parts)
        return 1 if (told - residue) % divisor == 0 else 0
    counts = [at_least(table, which, number, least) for least in range(number + 2)]
    total = 0
    for told in range(-number, number + 1):
        if (told - residue) % divisor == 0:
            # As many ways have a rank, or a crank, below 0 as have it above.
            total += counts[abs(told)] - counts[abs(told) + 1]
    return total
