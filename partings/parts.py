"""The calls on one object that holds parts, and what they answer.

Each call's function takes the object and the numbers that are handed over with the call,
and gives back the numbers that are answered: a refusal is its number alone.
"""

from partings.counting import ALL_WAYS, GAPS, Table, with_residue
from partings.moves import core, has_move, moved
from partings.order import following, has_following, place_of, way_at
from partings.words import all_different, all_odd, crank, greatest, joined, rank, split, square, turned

MOST = 400
MOST_DIVISOR = 64
WRAP = 4294967296
SET_CALL = 1
BAD_NUMBERS = -1
BAD_PARTS = -2


class Held:
    def __init__(self):
        self.parts = []
        self.tables = {}

    def table(self, kind):
        if kind not in self.tables:
            self.tables[kind] = Table(kind)
        return self.tables[kind]


def begin(held, handed):
    held.parts = []
    return [0]


def set_parts(held, handed):
    if not are_parts(handed):
        return [BAD_NUMBERS]
    held.parts = list(handed)
    return [sum(handed)]


def are_parts(numbers):
    # No part can be greater than the most that all may come to.
    before = MOST
    for number in numbers:
        if number < 1 or number > before:
            return False
        before = number
    return sum(numbers) <= MOST


def tell_parts(held, handed):
    empty = MOST - len(held.parts)
    return [len(held.parts)] + held.parts + [0] * empty


def tell_about(held, handed):
    parts = held.parts
    return [0, sum(parts), greatest(parts), rank(parts) % WRAP, crank(parts) % WRAP, square(parts)]


def turn_parts(held, handed):
    held.parts = turned(held.parts)
    return [0]


def split_parts(held, handed):
    if not all_different(held.parts):
        return [BAD_PARTS]
    held.parts = split(held.parts)
    return [0]


def join_parts(held, handed):
    if not all_odd(held.parts):
        return [BAD_PARTS]
    held.parts = joined(held.parts)
    return [0]


def make_move(held, handed):
    if not all_different(held.parts):
        return [BAD_PARTS]
    if not has_move(held.parts):
        return [0]
    held.parts = moved(held.parts)
    return [1]


def is_divisor(number):
    return 1 <= number <= MOST_DIVISOR


def take_core(held, handed):
    divisor = handed[0]
    if not is_divisor(divisor):
        return [BAD_NUMBERS]
    before = sum(held.parts)
    held.parts = core(held.parts, divisor)
    return [(before - sum(held.parts)) // divisor]


def go_to_next(held, handed):
    if not has_following(held.parts):
        return [0]
    held.parts = following(held.parts)
    return [1]


def tell_place(held, handed):
    return [0, place_of(held.table(ALL_WAYS), held.parts)]


def may_be_parted(number):
    return 0 <= number <= MOST


def go_to_place(held, handed):
    number = handed[0]
    place = handed[1]
    table = held.table(ALL_WAYS)
    if not may_be_parted(number) or place >= table.ways(number, number):
        return [BAD_NUMBERS]
    held.parts = way_at(table, number, place)
    return [len(held.parts)]


def tell_count(held, handed):
    number = handed[0]
    kind = handed[1]
    if not may_be_parted(number) or kind < 0 or kind >= len(GAPS):
        return [BAD_NUMBERS]
    return [0, held.table(kind).ways(number, number)]


def tell_residue(held, handed):
    which = handed[0]
    number = handed[1]
    residue = handed[2]
    divisor = handed[3]
    if not may_be_parted(number) or which not in (0, 1):
        return [BAD_NUMBERS]
    if not is_divisor(divisor) or residue < 0 or residue >= divisor:
        return [BAD_NUMBERS]
    return [0, with_residue(held.table(ALL_WAYS), which, number, residue, divisor)]


ACTS = {0: begin, 1: set_parts, 2: tell_parts, 3: tell_about, 4: turn_parts, 5: split_parts, 6: join_parts,
        7: make_move, 8: take_core, 9: go_to_next, 10: tell_place, 11: go_to_place, 12: tell_count, 13: tell_residue}
# How many whole numbers a call hands over; those that are not here hand over none, or a row.
HANDED = {8: 1, 11: 2, 12: 2, 13: 4}


def first_handed(calls, place):
    # A row has its own length ahead of it, which is not handed over.
    return place + 2 if calls[place] == SET_CALL else place + 1


def call_end(calls, place):
    first = first_handed(calls, place)
    if calls[place] == SET_CALL:
        return first + calls[place + 1]
    return first + HANDED.get(calls[place], 0)


def answers(calls):
    held = Held()
    told = []
    place = 0
    while place < len(calls):
        end = call_end(calls, place)
        act = ACTS[calls[place]]
        answer = act(held, calls[first_handed(calls, place):end])
        told.append(len(answer))
        told.extend(answer)
        place = end
    return told
