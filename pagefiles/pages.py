"""The calls. Each gives back one list of whole numbers: the number that is
answered, then each list that is told, with how many numbers it has ahead."""

from pagefiles.cells import cells_handed, cells_told, is_kind, values_among
from pagefiles.fileread import GoesWrong, entry_in_foot, table_in
from pagefiles.filewrite import MOST_FILE_BYTES, file_bytes
from pagefiles.layout import head_numbers, page_bytes, right_cells
from pagefiles.numerals import check_number, is_check, packed_bytes, packed_numbers, packed_width
from pagefiles.tables import row_count, rows_told, table_handed
from pagefiles.ways import each_way, way_taken

NOT_AS_TOLD = -1
NOT_RIGHT = -2
TOO_FEW = -4
FILE_TOO_LONG = -6
WAY_DOES_NOT_GO = -1

MOST_BITS = 64
MOST_NUMBERS = 256


def listed(numbers):
    return [len(numbers)] + numbers


def answer_with_list(number, numbers):
    return [number] + listed(numbers)


def page(k, cells):
    page_cells = cells_handed(k, cells)
    if page_cells is None:
        return [NOT_AS_TOLD]
    written = page_bytes(k, page_cells)
    return answer_with_list(len(written), written)


def judge(k, the_bytes):
    if not is_kind(k):
        return [NOT_AS_TOLD]
    return [0 if right_cells(k, the_bytes) is None else 1]


def look(k, the_bytes):
    if not is_kind(k):
        return [NOT_AS_TOLD]
    if right_cells(k, the_bytes) is None:
        return [NOT_RIGHT]
    return answer_with_list(0, head_numbers(the_bytes))


def read(k, start, n, the_bytes):
    if not is_kind(k):
        return [NOT_AS_TOLD]
    page_cells = right_cells(k, the_bytes)
    if page_cells is None:
        return [NOT_RIGHT]
    if start + n > len(page_cells):
        return [TOO_FEW]
    return answer_with_list(n, cells_told(k, page_cells[start:start + n]))


def sizes(k, cells):
    page_cells = cells_handed(k, cells)
    if page_cells is None:
        return [NOT_AS_TOLD]
    values = values_among(page_cells)
    if len(values) == 0:
        return answer_with_list(0, [])
    written = each_way(k, values)
    counts = [WAY_DOES_NOT_GO if the_bytes is None else len(the_bytes) for the_bytes in written]
    return answer_with_list(way_taken(written), counts)


def file(g, kinds, rows):
    table = table_handed(g, kinds, rows)
    if table is None:
        return [NOT_AS_TOLD]
    written = file_bytes(table)
    if len(written) > MOST_FILE_BYTES:
        return [FILE_TOO_LONG]
    return answer_with_list(len(written), written)


# The table whose file these bytes are; else the refusal, which is a list.
def table_or_refusal(the_bytes):
    if len(the_bytes) > MOST_FILE_BYTES:
        return [FILE_TOO_LONG]
    try:
        return table_in(the_bytes)
    except GoesWrong as wrong:
        return answer_with_list(NOT_RIGHT, [wrong.place])


def open_of(the_bytes):
    table = table_or_refusal(the_bytes)
    if isinstance(table, list):
        return table
    counts = [len(table.kinds), row_count(table.groups), table.g]
    return answer_with_list(len(table.groups), counts) + listed(table.kinds)


def rows(start, n, the_bytes):
    table = table_or_refusal(the_bytes)
    if isinstance(table, list):
        return table
    if start + n > row_count(table.groups):
        return [TOO_FEW]
    return answer_with_list(n, rows_told(table, start, n))


def entry(i, j, the_bytes):
    table = table_or_refusal(the_bytes)
    if isinstance(table, list):
        return table
    if i >= len(table.groups) or j >= len(table.kinds):
        return [TOO_FEW]
    return answer_with_list(0, entry_in_foot(table, i, j, the_bytes))


def check(c, the_bytes):
    if not is_check(c):
        return [NOT_AS_TOLD]
    return [check_number(c, the_bytes)]


# These bounds are of pack and unpack alone: a page's differences may take 65 bits.
def may_pack(q, k):
    return q <= MOST_BITS and k <= MOST_NUMBERS


def pack(q, numbers):
    if not may_pack(q, len(numbers)) or any([number.bit_length() > q for number in numbers]):
        return [NOT_AS_TOLD]
    packed = packed_bytes(q, numbers)
    return answer_with_list(len(packed), packed)


def unpack(q, k, the_bytes):
    if not may_pack(q, k):
        return [NOT_AS_TOLD]
    if len(the_bytes) != packed_width(q, k):
        return [NOT_RIGHT]
    return answer_with_list(k, packed_numbers(q, k, the_bytes))
