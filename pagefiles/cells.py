"""Cells as they are handed over and told; within the program a cell is None
(null), a whole number (kind 0) or a tuple of bytes (kind 1)."""

NUMBERS = 0
ROWS_OF_BYTES = 1

MOST_CELLS = 64
MOST_BYTES = 40
LEAST_NUMBER = -9223372036854775808
GREATEST_NUMBER = 9223372036854775807


def is_kind(kind):
    return kind == NUMBERS or kind == ROWS_OF_BYTES


def is_value(kind, value):
    if kind == NUMBERS:
        return LEAST_NUMBER <= value <= GREATEST_NUMBER
    return len(value) <= MOST_BYTES and all([0 <= byte <= 255 for byte in value])


# None where no row of bytes is handed over from that place on.
def bytes_handed(handed, at):
    count = handed[at]
    if count < 0 or count > MOST_BYTES or at + 1 + count > len(handed):
        return None
    return tuple(handed[at + 1:at + 1 + count])


# None where no value of the kind is handed over from that place on.
def value_handed(kind, handed, at):
    if at >= len(handed):
        return None
    value = handed[at] if kind == NUMBERS else bytes_handed(handed, at)
    if value is None or not is_value(kind, value):
        return None
    return value


def value_told(kind, value):
    if kind == NUMBERS:
        return [value]
    return [len(value)] + list(value)


# The first cell is of the first kind, each further one of the next; behind the last kind stands the first again.
# None where what is handed over isn't such cells, or more than so many.
def cells_in_turn(kinds, most, handed):
    cells = []
    at = 0
    while at < len(handed):
        kind = kinds[len(cells) % len(kinds)]
        cell = None
        if handed[at] == 1:
            cell = value_handed(kind, handed, at + 1)
            if cell is None:
                return None
        elif handed[at] != 0:
            return None
        cells.append(cell)
        if len(cells) > most:
            return None
        at = at + len(cell_told(kind, cell))
    return cells


# None where there's no such kind, or what is handed over isn't cells of it.
def cells_handed(kind, handed):
    if not is_kind(kind):
        return None
    return cells_in_turn([kind], MOST_CELLS, handed)


def values_among(cells):
    return [cell for cell in cells if cell is not None]


def cell_told(kind, cell):
    if cell is None:
        return [0]
    return [1] + value_told(kind, cell)


def cells_told(kind, cells):
    told = []
    for cell in cells:
        told.extend(cell_told(kind, cell))
    return told
