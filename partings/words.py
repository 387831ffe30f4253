"""What the document's words say of parts.

Each function here reads a list of parts, the greatest first, and leaves it as it is.
"""


def greatest(parts):
    return parts[0] if parts else 0


def rank(parts):
    return greatest(parts) - len(parts)


def crank(parts):
    ones = parts.count(1)
    if ones == 0:
        return greatest(parts)
    return len([part for part in parts if part > ones]) - ones


def square(parts):
    side = 0
    # The parts fall while the side grows: where one is too small for its place, all behind it are.
    while side < len(parts) and parts[side] > side:
        side += 1
    return side


def turned(parts):
    columns = []
    standing = len(parts)
    # From the least part up, so that each part and each column is passed once.
    while standing > 0:
        if parts[standing - 1] > len(columns):
            columns.append(standing)
        else:
            standing -= 1
    return columns


def all_different(parts):
    return len(set(parts)) == len(parts)


def all_odd(parts):
    return all([part % 2 == 1 for part in parts])


def in_order(parts):
    return sorted(parts, reverse=True)


def split(parts):
    halves = []
    for part in parts:
        halves.extend(split_one(part))
    return in_order(halves)


def split_one(part):
    half = part
    times = 1
    while half % 2 == 0:
        half = half // 2
        times = times * 2
    return [half] * times


def joined(parts):
    times = {}
    for part in parts:
        times[part] = times.get(part, 0) + 1
    sums = []
    for part in times:
        sums.extend(joined_one(part, times[part]))
    return in_order(sums)


def joined_one(part, times):
    sums = []
    doubled = part
    left = times
    while left > 0:
        if left % 2 == 1:
            sums.append(doubled)
        doubled = doubled * 2
        left = left // 2
    return sums
