"""A table: its columns' kinds, and its rows cut into groups."""

from pagefiles.cells import cell_told, cells_in_turn, is_kind

MOST_COLUMNS = 8
MOST_GROUP_ROWS = 64
MOST_ROWS = 256


# Each group is a list of its columns, each column a list of its cells.
class Table:
    def __init__(self, g, kinds, groups):
        self.g = g
        self.kinds = kinds
        self.groups = groups


def is_column_count(count):
    return 1 <= count <= MOST_COLUMNS


def is_group_size(g):
    return 1 <= g <= MOST_GROUP_ROWS


def are_kinds(kinds):
    return all([is_kind(kind) for kind in kinds])


def group_rows(group):
    return len(group[0])


def row_count(groups):
    return sum([group_rows(group) for group in groups])


# The cells stand row by row; each column takes every width-th of its group's.
def groups_of(g, width, cells):
    groups = []
    for start in range(0, len(cells), g * width):
        in_group = cells[start:start + g * width]
        groups.append([in_group[column::width] for column in range(width)])
    return groups


# None where what is handed over is no table.
def table_handed(g, kinds, handed):
    width = len(kinds)
    if not is_column_count(width) or not are_kinds(kinds) or not is_group_size(g):
        return None
    cells = cells_in_turn(kinds, MOST_ROWS * width, handed)
    if cells is None or len(cells) % width != 0:
        return None
    return Table(g, kinds, groups_of(g, width, cells))


def rows_told(table, start, n):
    told = []
    for place in range(start, start + n):
        group = table.groups[place // table.g]
        for kind, cells in zip(table.kinds, group):
            told.extend(cell_told(kind, cells[place % table.g]))
    return told
