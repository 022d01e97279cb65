"""A file's bytes read part by part from the left, each held against what must
stand there. Bytes that are missing make a part differ, so where a file ends too
early it goes wrong at the part that isn't whole."""

from pagefiles.filewrite import END_WIDTH, ENTRY_WIDTH, FILE_MARK, FOOT_MARK, FOOT_START_WIDTH
from pagefiles.filewrite import file_bytes, group_start_bytes
from pagefiles.layout import page_width_at, right_cells
from pagefiles.numerals import check_bytes, number_at
from pagefiles.tables import MOST_ROWS, Table, are_kinds, is_column_count, is_group_size, row_count


# The place is that of the first byte of the first part that isn't so.
class GoesWrong(Exception):
    def __init__(self, place):
        self.place = place


# Ahead of the place all parts are right; at the place the next one begins.
class Reading:
    def __init__(self, the_bytes):
        self.the_bytes = the_bytes
        self.place = 0


def next_bytes(reading, width):
    return reading.the_bytes[reading.place:reading.place + width]


def stands_next(reading, part):
    return next_bytes(reading, len(part)) == part


def require(reading, so):
    if not so:
        raise GoesWrong(reading.place)


def move_on(reading, width):
    reading.place = reading.place + width


def read_part(reading, part):
    require(reading, stands_next(reading, part))
    move_on(reading, len(part))


def read_column_count(reading):
    count = number_at(reading.the_bytes, reading.place, 1)
    require(reading, is_column_count(count))
    move_on(reading, 1)
    return count


def read_group_size(reading):
    g = number_at(reading.the_bytes, reading.place, 1)
    require(reading, is_group_size(g))
    move_on(reading, 1)
    return g


def read_kinds(reading, count):
    kinds = next_bytes(reading, count)
    require(reading, len(kinds) == count and are_kinds(kinds))
    move_on(reading, count)
    return kinds


# The table as the head tells it, without rows.
def read_head(reading):
    read_part(reading, list(FILE_MARK))
    count = read_column_count(reading)
    g = read_group_size(reading)
    kinds = read_kinds(reading, count)
    read_part(reading, check_bytes(reading.the_bytes[:reading.place]))
    return Table(g, kinds, [])


# How many rows the group has; it may stand only behind groups that all have g.
def read_group_start(reading, table):
    n = number_at(reading.the_bytes, reading.place + 4, 4)
    before = row_count(table.groups)
    all_full = before == table.g * len(table.groups)
    require(reading, 1 <= n <= table.g and before + n <= MOST_ROWS and all_full)
    read_part(reading, group_start_bytes(n))
    return n


def read_page(reading, kind, n):
    written = next_bytes(reading, page_width_at(reading.the_bytes, reading.place))
    cells = right_cells(kind, written)
    require(reading, cells is not None and len(cells) == n)
    move_on(reading, len(written))
    return cells


def read_group(reading, table):
    n = read_group_start(reading, table)
    return [read_page(reading, kind, n) for kind in table.kinds]


# Writing the table again settles it: the foot is a function of what stands ahead of it.
def read_foot(reading, table):
    expected = file_bytes(table)
    read_part(reading, expected[reading.place:-END_WIDTH])
    read_part(reading, expected[-END_WIDTH:])


def table_in(the_bytes):
    reading = Reading(the_bytes)
    table = read_head(reading)
    while not stands_next(reading, list(FOOT_MARK)):
        table.groups.append(read_group(reading, table))
    read_foot(reading, table)
    require(reading, reading.place == len(the_bytes))
    return table


# Of group i's page of column j: its place, how many bytes, how many nulls. The bytes are the table's file, so what
# its foot says holds.
def entry_in_foot(table, i, j, the_bytes):
    foot_end = len(the_bytes) - END_WIDTH
    foot_start = foot_end - number_at(the_bytes, foot_end, 4)
    at = foot_start + FOOT_START_WIDTH + ENTRY_WIDTH * (i * len(table.kinds) + j)
    return [number_at(the_bytes, at + 4 * turn, 4) for turn in range(3)]
