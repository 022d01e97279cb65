"""The values that bytes may stand for, in each of the seven ways.

These functions read any bytes, and never fail: what is missing counts as 0 or
is left out, and no count is followed further than k, so that wrong bytes cost
no more than right ones. Of bytes that a way wrote they give back the values;
whether it wrote them is settled by writing those values again."""

from pagefiles.cells import NUMBERS, ROWS_OF_BYTES
from pagefiles.numerals import number_at, packed_numbers, signed_at
from pagefiles.ways import alone_bytes, plain_bytes


def alone_value(kind, the_bytes, at):
    if kind == NUMBERS:
        return signed_at(the_bytes, at, 8)
    return tuple(the_bytes[at + 4:at + 4 + number_at(the_bytes, at, 4)])


def plain_values(kind, k, the_bytes):
    if kind == NUMBERS:
        return [signed_at(the_bytes, 8 * place, 8) for place in range(k)]
    values = []
    at = 4 * k
    for place in range(k):
        count = number_at(the_bytes, 4 * place, 4)
        values.append(tuple(the_bytes[at:at + count]))
        at = at + count
    return values


def one_values(kind, k, the_bytes):
    return [alone_value(kind, the_bytes, 0)] * k


def runs_values(kind, k, the_bytes):
    values = []
    at = 4
    for place in range(min(k, number_at(the_bytes, 0, 4))):
        value = alone_value(kind, the_bytes, at + 4)
        values.extend([value] * min(k, number_at(the_bytes, at, 4)))
        at = at + 4 + len(alone_bytes(kind, value))
    return values


def dictionary_values(kind, k, the_bytes):
    d = min(k, number_at(the_bytes, 0, 4))
    different = plain_values(kind, d, the_bytes[4:])
    behind = 4 + len(plain_bytes(kind, different))
    which = packed_numbers((d - 1).bit_length(), k, the_bytes[behind:])
    return [different[place] for place in which if place < d]


# Reads what stands from the byte q on: k numbers, told by how far each lies above the least.
def above_least(least, k, the_bytes):
    q = number_at(the_bytes, 0, 1)
    return [least + number for number in packed_numbers(q, k, the_bytes[1:])]


def from_least_values(k, the_bytes):
    return above_least(signed_at(the_bytes, 0, 8), k, the_bytes[8:])


def differences_values(k, the_bytes):
    values = [signed_at(the_bytes, 0, 8)]
    for step in above_least(signed_at(the_bytes, 8, 9), k - 1, the_bytes[17:]):
        values.append(values[-1] + step)
    return values


def shared_values(k, the_bytes):
    values = []
    before = ()
    at = 0
    for place in range(k):
        left = alone_value(ROWS_OF_BYTES, the_bytes, at + 4)
        before = before[:number_at(the_bytes, at, 4)] + left
        values.append(before)
        at = at + 8 + len(left)
    return values


# Without values where the way doesn't go for the kind.
def values_in_way(way, kind, k, the_bytes):
    if way == 0:
        return plain_values(kind, k, the_bytes)
    if way == 1:
        return one_values(kind, k, the_bytes)
    if way == 2:
        return runs_values(kind, k, the_bytes)
    if way == 3:
        return dictionary_values(kind, k, the_bytes)
    if way == 4 and kind == NUMBERS:
        return from_least_values(k, the_bytes)
    if way == 5 and kind == NUMBERS:
        return differences_values(k, the_bytes)
    if way == 6 and kind == ROWS_OF_BYTES:
        return shared_values(k, the_bytes)
    return []
