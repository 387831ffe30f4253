"""Franklin's move and the core: ways that take the place of a way.

Each function here reads a list of parts, the greatest first, and leaves it as it is.
"""

from partings.words import in_order


def stairs(parts):
    # How many parts from the first on go down by one from each to the next; of no parts it is not asked.
    steps = 1
    while steps < len(parts) and parts[steps] == parts[steps - 1] - 1:
        steps += 1
    return steps


def has_move(parts):
    if not parts:
        return False
    least = parts[-1]
    steps = stairs(parts)
    if least <= steps:
        # The least part would have to grow once it is taken off.
        return least != len(parts)
    # The least part, lessened, would be equal to the one that is put behind it.
    return steps != len(parts) or least != steps + 1


def moved(parts):
    least = parts[-1]
    steps = stairs(parts)
    if least <= steps:
        return [part + 1 for part in parts[:least]] + parts[least:-1]
    return [part - 1 for part in parts[:steps]] + parts[steps:] + [steps]


def hooks_of(parts):
    last = len(parts) - 1
    return [part + last - place for place, part in enumerate(parts)]


def parts_of(hooks):
    last = len(hooks) - 1
    parts = [hook - (last - place) for place, hook in enumerate(hooks)]
    return [part for part in parts if part > 0]


def core(parts, divisor):
    times = {}
    hooks = []
    for hook in hooks_of(parts):
        left = hook % divisor
        before = times.get(left, 0)
        hooks.append(left + before * divisor)
        times[left] = before + 1
    return parts_of(in_order(hooks))
