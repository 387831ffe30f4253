"""What the tests share: how a list of calls is written, and how what comes back is read."""

from partings.parts import answers

BEGIN = [0]
PARTS = [2]
ABOUT = [3]
TURN = [4]
SPLIT = [5]
JOIN = [6]
MOVE = [7]
NEXT = [9]
PLACE = [10]

LEAST = -2147483648
GREATEST = 2147483647
ALL_OF_400 = 6727090051741041926


def put(parts):
    return [1, len(parts)] + list(parts)


def core(t):
    return [8, t]


def at(n, k):
    return [11, n, k]


def count(n, kind):
    return [12, n, kind]


def residue(which, n, r, m):
    return [13, which, n, r, m]


def run(*calls):
    """The answers of these calls behind a begin, each a list of its own; begin's is left out."""
    line = list(BEGIN)
    for call in calls:
        line += call
    told = cut(answers(line))
    if len(told) != len(calls) + 1:
        raise AssertionError(f"{len(calls) + 1} calls, {len(told)} answers")
    if told[0] != [0]:
        raise AssertionError(f"begin answered {told[0]}")
    return told[1:]


def cut(told):
    rows = []
    place = 0
    while place < len(told):
        count = told[place]
        row = told[place + 1:place + 1 + count]
        if len(row) != count:
            raise AssertionError("an answer is shorter than its count")
        rows.append(row)
        place += 1 + count
    return rows


def shown(parts):
    """What the call parts answers when these are there."""
    return [len(parts)] + list(parts) + [0] * (400 - len(parts))


def read(answer):
    """The parts that an answer of the call parts tells."""
    parts = answer[1:answer[0] + 1]
    if answer != shown(parts):
        raise AssertionError(f"not what parts may answer: {answer}")
    return parts


def rank_by_words(parts):
    return max(parts) - len(parts) if parts else 0


def crank_by_words(parts):
    ones = sum(1 for part in parts if part == 1)
    if ones == 0:
        return max(parts, default=0)
    return sum(1 for part in parts if part > ones) - ones


def ways(number, most=None):
    """All ways to part the number, found by trying each first part."""
    if number == 0:
        return [[]]
    most = number if most is None else min(most, number)
    return [[first] + rest for first in range(most, 0, -1) for rest in ways(number - first, first)]


def all_ways_up_to(number):
    return [way for total in range(number + 1) for way in ways(total)]
