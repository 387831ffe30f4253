"""All ways to part a number, in order: the next one, the place of one, and the one at a place.

A table here is that of all ways: it tells how many there are with parts up to a bound.
"""

from partings.words import greatest


def has_following(parts):
    # The last way of all is ones alone.
    return greatest(parts) > 1


def following(parts):
    ones = parts.count(1)
    last = len(parts) - ones - 1
    # The least part above 1 goes down by one; what it and the ones came to is parted
    # behind what stays, by the first way that has no greater part.
    most = parts[last] - 1
    rest = parts[last] + ones
    left = rest % most
    return parts[:last] + [most] * (rest // most) + ([left] if left > 0 else [])


def place_of(table, parts):
    before = 0
    rest = sum(parts)
    most = rest
    for part in parts:
        # The ways that are the same up to here and have a greater part here.
        before += table.ways(rest, most) - table.ways(rest, part)
        rest -= part
        most = part
    return before


def way_at(table, number, place):
    parts = []
    rest = number
    part = number
    before = place
    while rest > 0:
        begun = table.ways(rest - part, part)
        if before < begun:
            parts.append(part)
            rest -= part
            part = min(part, rest)
        else:
            before -= begun
            part -= 1
    return parts
