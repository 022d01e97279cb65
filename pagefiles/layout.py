"""A page: its head, which cells are null, the values, the check."""

from pagefiles.cells import MOST_CELLS, is_value, values_among
from pagefiles.numerals import check_bytes, number_at, number_bytes, packed_bytes, packed_numbers, packed_width
from pagefiles.readback import values_in_way
from pagefiles.ways import each_way, way_taken

NO_NULLS = 0
ALL_NULL = 1
SOME_NULL = 2

HEAD_WIDTH = 16
CHECK_WIDTH = 4


def null_state(n, nulls):
    if nulls == 0:
        return NO_NULLS
    return ALL_NULL if nulls == n else SOME_NULL


def null_map(cells):
    return packed_bytes(1, [0 if cell is None else 1 for cell in cells])


def page_bytes(kind, cells):
    values = values_among(cells)
    nulls = len(cells) - len(values)
    state = null_state(len(cells), nulls)
    way = 0
    body = null_map(cells) if state == SOME_NULL else []
    if len(values) > 0:
        written = each_way(kind, values)
        way = way_taken(written)
        body.extend(written[way])
    out = [way, state, 0, 0]
    for number in (len(cells), nulls, len(body)):
        out.extend(number_bytes(number, 4))
    out.extend(body)
    return out + check_bytes(out)


# The head's four numbers that tell of the page: e, byte 1, n, m.
def head_numbers(the_bytes):
    return [
        number_at(the_bytes, 0, 1),
        number_at(the_bytes, 1, 1),
        number_at(the_bytes, 4, 4),
        number_at(the_bytes, 8, 4),
    ]


# How many bytes the page has that begins there, as its head tells.
def page_width_at(the_bytes, at):
    return HEAD_WIDTH + number_at(the_bytes, at + 12, 4) + CHECK_WIDTH


# Of each of the n cells 1 if it isn't null, else 0.
def present_marks(state, n, body):
    if state == SOME_NULL:
        return packed_numbers(1, n, body)
    return [1 if state == NO_NULLS else 0] * n


def cells_of(marks, values):
    cells = []
    used = 0
    for mark in marks:
        cells.append(values[used] if mark == 1 else None)
        used = used + mark
    return cells


# The one list of cells whose page these bytes can be; None where there's none.
def possible_cells(kind, the_bytes):
    head = head_numbers(the_bytes)
    n = head[2]
    if n > MOST_CELLS:
        return None
    body = the_bytes[HEAD_WIDTH:-CHECK_WIDTH]
    marks = present_marks(head[1], n, body)
    if head[1] == SOME_NULL:
        body = body[packed_width(1, n):]
    k = sum(marks)
    values = values_in_way(head[0], kind, k, body) if k > 0 else []
    if len(values) != k or not all([is_value(kind, value) for value in values]):
        return None
    return cells_of(marks, values)


# Writing the cells again settles it: a right page is just the page of its cells.
def right_cells(kind, the_bytes):
    cells = possible_cells(kind, the_bytes)
    if cells is None or page_bytes(kind, cells) != the_bytes:
        return None
    return cells
