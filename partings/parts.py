"""The calls on one object that holds parts, and what they answer.

Each call's function takes the object and the numbers that are handed over with the call,
and gives back the numbers that are answered: a refusal is its number alone.
"""

from partings.words import all_different, all_odd, crank, greatest, joined, rank, split, square, turned

MOST = 400
WRAP = 4294967296
SET_CALL = 1
BAD_NUMBERS = -1
BAD_PARTS = -2


class Held:
    def __init__(self):
        self.parts = []


def begin(held, handed):
    held.parts = []
    return [0]


def set_parts(held, handed):
    if not are_parts(handed):
        return [BAD_NUMBERS]
    held.parts = list(handed)
    return [sum(handed)]


def are_parts(numbers):
    # No part can be greater than the most that all may come to.
    before = MOST
    for number in numbers:
        if number < 1 or number > before:
            return False
        before = number
    return sum(numbers) <= MOST


def tell_parts(held, handed):
    empty = MOST - len(held.parts)
    return [len(held.parts)] + held.parts + [0] * empty


def tell_about(held, handed):
    parts = held.parts
    return [0, sum(parts), greatest(parts), rank(parts) % WRAP, crank(parts) % WRAP, square(parts)]


def turn_parts(held, handed):
    held.parts = turned(held.parts)
    return [0]


def split_parts(held, handed):
    if not all_different(held.parts):
        return [BAD_PARTS]
    held.parts = split(held.parts)
    return [0]


def join_parts(held, handed):
    if not all_odd(held.parts):
        return [BAD_PARTS]
    held.parts = joined(held.parts)
    return [0]


ACTS = {0: begin, 1: set_parts, 2: tell_parts, 3: tell_about, 4: turn_parts, 5: split_parts, 6: join_parts}


def first_handed(calls, place):
    # A row has its own length ahead of it, which is not handed over.
    return place + 2 if calls[place] == SET_CALL else place + 1


def call_end(calls, place):
    first = first_handed(calls, place)
    return first + calls[place + 1] if calls[place] == SET_CALL else first


def answers(calls):
    held = Held()
    told = []
    place = 0
    while place < len(calls):
        end = call_end(calls, place)
        act = ACTS[calls[place]]
        answer = act(held, calls[first_handed(calls, place):end])
        told.append(len(answer))
        told.extend(answer)
        place = end
    return told
