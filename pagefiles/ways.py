"""The values of a page as bytes, in each of the seven ways."""

from pagefiles.cells import NUMBERS, ROWS_OF_BYTES
from pagefiles.numerals import number_bytes, packed_bytes


def value_bytes(kind, value):
    if kind == NUMBERS:
        return number_bytes(value, 8)
    return list(value)


def alone_bytes(kind, value):
    if kind == NUMBERS:
        return value_bytes(kind, value)
    return number_bytes(len(value), 4) + value_bytes(kind, value)


def plain_bytes(kind, values):
    out = []
    if kind != NUMBERS:
        for value in values:
            out.extend(number_bytes(len(value), 4))
    for value in values:
        out.extend(value_bytes(kind, value))
    return out


# Each run is a pair: its value, and how many there are side by side.
def runs_in(values):
    runs = []
    for value in values:
        if len(runs) > 0 and runs[-1][0] == value:
            runs[-1] = (value, runs[-1][1] + 1)
        else:
            runs.append((value, 1))
    return runs


def runs_bytes(kind, runs):
    out = number_bytes(len(runs), 4)
    for run in runs:
        out.extend(number_bytes(run[1], 4))
        out.extend(alone_bytes(kind, run[0]))
    return out


def dictionary_bytes(kind, values):
    different = sorted(set(values))
    places = {}
    for place, value in enumerate(different):
        places[value] = place
    q = (len(different) - 1).bit_length()
    which = [places[value] for value in values]
    return number_bytes(len(different), 4) + plain_bytes(kind, different) + packed_bytes(q, which)


# A byte q, then how far each number lies above the least of them.
def above_least_bytes(numbers):
    least = min(numbers)
    q = (max(numbers) - least).bit_length()
    return [q] + packed_bytes(q, [number - least for number in numbers])


def from_least_bytes(numbers):
    return number_bytes(min(numbers), 8) + above_least_bytes(numbers)


def differences_bytes(numbers):
    steps = [numbers[place] - numbers[place - 1] for place in range(1, len(numbers))]
    return number_bytes(numbers[0], 8) + number_bytes(min(steps), 9) + above_least_bytes(steps)


def shared_count(one, other):
    count = 0
    while count < min(len(one), len(other)) and one[count] == other[count]:
        count = count + 1
    return count


def shared_bytes(rows_of_bytes):
    out = []
    before = ()
    for value in rows_of_bytes:
        count = shared_count(before, value)
        out.extend(number_bytes(count, 4))
        out.extend(alone_bytes(ROWS_OF_BYTES, value[count:]))
        before = value
    return out


# A list of seven: the bytes of the values in each way, None where it doesn't go.
def each_way(kind, values):
    numbers = kind == NUMBERS
    runs = runs_in(values)
    return [
        plain_bytes(kind, values),
        alone_bytes(kind, values[0]) if len(runs) == 1 else None,
        runs_bytes(kind, runs),
        dictionary_bytes(kind, values),
        from_least_bytes(values) if numbers else None,
        differences_bytes(values) if numbers and len(values) >= 2 else None,
        None if numbers else shared_bytes(values),
    ]


def way_taken(written):
    taken = 0
    for way, the_bytes in enumerate(written):
        if the_bytes is not None and len(the_bytes) < len(written[taken]):
            taken = way
    return taken
