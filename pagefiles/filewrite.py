"""A table's file: its head, its groups, its foot."""

from pagefiles.layout import page_bytes
from pagefiles.numerals import check_bytes, number_bytes
from pagefiles.tables import group_rows, row_count

MOST_FILE_BYTES = 16384

FILE_MARK = (80, 65, 71, 69, 83, 49)
GROUP_MARK = (71, 0, 0, 0)
FOOT_MARK = (70, 0, 0, 0)
FOOT_START_WIDTH = 8
ENTRY_WIDTH = 12
END_WIDTH = 10


def head_bytes(g, kinds):
    out = list(FILE_MARK) + [len(kinds), g] + kinds
    return out + check_bytes(out)


# What stands ahead of a group's pages.
def group_start_bytes(n):
    return list(GROUP_MARK) + number_bytes(n, 4)


# The foot with its check's four bytes. Each entry tells of a page its place, how many bytes it has, how many nulls;
# the entries stand group by group, in each by column.
def foot_bytes(groups, entries):
    out = list(FOOT_MARK) + number_bytes(len(groups), 4)
    for entry_numbers in entries:
        for number in entry_numbers:
            out.extend(number_bytes(number, 4))
    out.extend(number_bytes(row_count(groups), 4))
    return out + check_bytes(out)


# What stands behind the foot's check.
def end_bytes(foot):
    return number_bytes(len(foot), 4) + list(FILE_MARK)


def file_bytes(table):
    out = head_bytes(table.g, table.kinds)
    entries = []
    for group in table.groups:
        out.extend(group_start_bytes(group_rows(group)))
        for kind, cells in zip(table.kinds, group):
            written = page_bytes(kind, cells)
            entries.append((len(out), len(written), cells.count(None)))
            out.extend(written)
    foot = foot_bytes(table.groups, entries)
    return out + foot + end_bytes(foot)
