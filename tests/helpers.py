"""A second, plainer account of what DOC.md says of pages, for the tests to
compare with, and what else several test files need. Cells are None, an int
or a bytes value here."""

LEAST, GREATEST = -2 ** 63, 2 ** 63 - 1
TOP = 2 ** 64 - 1


def crc32c(data):
    state = 0xFFFFFFFF
    for byte in data:
        state ^= byte
        for _ in range(8):
            state = (state >> 1) ^ (0x82F63B78 if state & 1 else 0)
    return state ^ 0xFFFFFFFF


def u(x, width=4):
    return x.to_bytes(width, "little")


def s(x, width=8):
    return x.to_bytes(width, "little", signed=True)


def bits(x):
    q = 0
    while x >= 2 ** q:
        q += 1
    return q


def packed(q, numbers):
    text = "".join(format(x, "b").zfill(q)[::-1] if q else "" for x in numbers)
    text += "0" * (-len(text) % 8)
    return bytes(int(text[at:at + 8][::-1], 2) for at in range(0, len(text), 8))


def alone(kind, value):
    return s(value) if kind == 0 else u(len(value)) + value


def plain(kind, values):
    if kind == 0:
        return b"".join(s(x) for x in values)
    return b"".join(u(len(x)) for x in values) + b"".join(values)


def runs(kind, pairs):
    return u(len(pairs)) + b"".join(u(times) + alone(kind, value) for times, value in pairs)


def pairs_of(values):
    starts = [i for i in range(len(values)) if i == 0 or values[i] != values[i - 1]]
    ends = starts[1:] + [len(values)]
    return [(end - start, values[start]) for start, end in zip(starts, ends)]


def dictionary(kind, different, which):
    return u(len(different)) + plain(kind, different) + packed(bits(max(len(different) - 1, 0)), which)


def from_least(least, q, numbers):
    return s(least) + u(q, 1) + packed(q, numbers)


def differences(first, least, q, numbers):
    return s(first) + s(least, 9) + u(q, 1) + packed(q, numbers)


def shared(triples):
    return b"".join(u(count) + u(len(left)) + left for count, left in triples)


def triples_of(values):
    out, before = [], b""
    for value in values:
        count = max(c for c in range(41) if c <= len(before) and value[:c] == before[:c] and c <= len(value))
        out.append((count, value[count:]))
        before = value
    return out


def ways(kind, values):
    """The bytes of the values in each way, None where it doesn't go."""
    different = sorted(set(values))
    out = [
        plain(kind, values),
        alone(kind, values[0]) if len(different) == 1 else None,
        runs(kind, pairs_of(values)),
        dictionary(kind, different, [different.index(x) for x in values]),
        None, None, None,
    ]
    if kind == 1:
        out[6] = shared(triples_of(values))
        return out
    q = bits(max(values) - min(values))
    out[4] = from_least(min(values), q, [x - min(values) for x in values])
    if len(values) > 1:
        steps = [b - a for a, b in zip(values, values[1:])]
        q = bits(max(steps) - min(steps))
        out[5] = differences(values[0], min(steps), q, [x - min(steps) for x in steps])
    return out


def lengths(kind, values):
    return [None if w is None else len(w) for w in ways(kind, values)]


def way_of(kind, values):
    found = lengths(kind, values)
    return found.index(min(x for x in found if x is not None))


def sealed(data):
    return list(data) + list(u(crc32c(data)))


def resealed(the_bytes):
    """The same bytes with the check that fits them."""
    return sealed(bytes(the_bytes[:-4]))


def page_of(e, state, n, m, body, length=None, zeros=b"\0\0"):
    """A page with a right check, whatever its parts say."""
    head = u(e, 1) + u(state, 1) + zeros + u(n) + u(m)
    return sealed(head + u(len(body) if length is None else length) + body)


def null_map(cells):
    return packed(1, [int(cell is not None) for cell in cells])


def right_page(kind, cells):
    values = [cell for cell in cells if cell is not None]
    n, m = len(cells), len(cells) - len(values)
    state = 0 if m == 0 else 1 if m == n else 2
    body = null_map(cells) if state == 2 else b""
    if not values:
        return page_of(0, state, n, m, body)
    e = way_of(kind, values)
    return page_of(e, state, n, m, body + ways(kind, values)[e])


def handed(cells):
    """The cells as they are handed over and told."""
    out = []
    for cell in cells:
        if cell is None:
            out += [0]
        elif isinstance(cell, int):
            out += [1, cell]
        else:
            out += [1, len(cell)] + list(cell)
    return out


class Draw:
    """Numbers that look scattered and are the same every time."""

    def __init__(self, seed):
        self.state = seed

    def below(self, bound):
        self.state = (self.state * 6364136223846793005 + 1442695040888963407) % 2 ** 64
        return (self.state >> 16) % bound

    def pick(self, choices):
        return choices[self.below(len(choices))]


def drawn_number(draw, shape):
    if shape == 0:
        return draw.pick([LEAST, GREATEST, 0, -1, 1])
    if shape == 1:
        return draw.below(200) - 100
    if shape == 2:
        return draw.below(2 ** 24) * 2 ** 39 - 2 ** 62
    return draw.pick([7, 2 ** 60, -2 ** 61])


def drawn_bytes(draw, shape):
    if shape == 0:
        return bytes([draw.below(256) for _ in range(draw.below(41))])
    if shape == 1:
        return b"the same bytes ahead of the " + bytes([draw.below(3) for _ in range(draw.below(13))])
    if shape == 2:
        return bytes([97 + draw.below(2)] * draw.below(3))
    return draw.pick([b"", b"\xff" * 40, b"between"])


def drawn_cells(draw, kind):
    """Up to 64 cells, of shapes in which every way is taken now and then."""
    shape, nulls, stay = draw.below(5), draw.below(3), draw.pick([1, 1, 3, 20])
    step = draw.below(10 ** 12)
    cells = []
    for i in range(draw.below(65)):
        if nulls and draw.below(4) < nulls:
            cells.append(None)
        elif kind == 0 and shape == 4:
            cells.append(i * step + draw.below(3))
        elif cells and draw.below(stay):
            cells.append(cells[-1])
        else:
            cells.append((drawn_bytes if kind else drawn_number)(draw, shape % 4))
    return cells


NUMBERS_IN_WAY = {
    0: [LEAST, GREATEST],
    1: [LEAST] * 5,
    2: [LEAST] * 20 + [GREATEST] * 20 + [0] * 24,
    3: [LEAST, GREATEST] * 10,
    4: [3, 250, 17, 99, 0, 255, 254, 1, 77, 128],
    5: [1000003 * i for i in range(64)],
}
BYTES_IN_WAY = {
    0: [b"a", b"", b"bcd"],
    1: [b"again"] * 3,
    2: [b"left" * 10] * 20 + [b"right"] * 20 + [b""] * 24,
    3: [b"left" * 10, b"right" * 8] * 10,
    6: [b"a" * 39 + bytes([i * 37 % 256]) for i in range(64)],
}
VALUES_IN_WAY = [(0, e, v) for e, v in NUMBERS_IN_WAY.items()] + [(1, e, v) for e, v in BYTES_IN_WAY.items()]


def with_nulls(values):
    """The values as cells with nulls ahead, between and behind, 64 at most."""
    kept = values[:61]
    return [None] + kept[:1] + [None] + kept[1:] + [None]


def sample_cells():
    """Pairs of a kind and cells: each way with and without nulls, the edges, no values."""
    out = [(kind, [None] * n) for kind in (0, 1) for n in (0, 1, 8, 64)]
    for kind, _, values in VALUES_IN_WAY:
        out += [(kind, values), (kind, with_nulls(values))]
    return out


MARK = b"PAGES1"


def checked(data):
    return data + u(crc32c(data))


def foot_of(entries, groups, rows, mark=b"F\0\0\0"):
    """The foot with its check, right for what stands there."""
    told = b"".join(u(number) for entry in entries for number in entry)
    return checked(mark + u(groups) + told + u(rows))


def end_of(foot):
    return u(len(foot)) + MARK


def groups_of(g, rows):
    return [rows[first:first + g] for first in range(0, len(rows), g)]


def parts_of_groups(g, kinds, groups):
    """The parts in order: what each is, and its bytes; also of groups that no table has. A row is a list of cells."""
    head = checked(MARK + bytes([len(kinds), g]) + bytes(kinds))
    parts = [("mark", MARK), ("columns", head[6:7]), ("g", head[7:8]), ("kinds", head[8:-4]), ("check", head[-4:])]
    at, entries = len(head), []
    for group in groups:
        parts.append(("group", b"G\0\0\0" + u(len(group))))
        at += 8
        for j, kind in enumerate(kinds):
            cells = [row[j] for row in group]
            page = bytes(right_page(kind, cells))
            entries.append((at, len(page), cells.count(None)))
            parts.append(("page", page))
            at += len(page)
    foot = foot_of(entries, len(groups), sum(len(group) for group in groups))
    return parts + [("foot", foot), ("end", end_of(foot))]


def file_parts(g, kinds, rows):
    return parts_of_groups(g, kinds, groups_of(g, rows))


def joined(parts):
    return list(b"".join(data for _, data in parts))


def right_file(g, kinds, rows):
    return joined(file_parts(g, kinds, rows))


def part_places(parts):
    """What each part is, its first byte's place, and the place behind its last."""
    out, at = [], 0
    for name, data in parts:
        out.append((name, at, at + len(data)))
        at += len(data)
    return out


def wrong_files(g, kinds, rows):
    """Pairs of bytes and where they first go wrong: in each part of the table's file, ahead of it and behind all."""
    parts = file_parts(g, kinds, rows)
    right = joined(parts)
    out = [([], 0), (right + [0], len(right)), (right[:-1], len(right) - 10)]
    for _, first, behind in part_places(parts):
        out.append((right[:first], first))
        changed = list(right)
        changed[behind - 1] ^= 128
        out.append((changed, first))
    return out


def handed_rows(rows):
    return handed([cell for row in rows for cell in row])


def cell_for(kind, i, null_each=0):
    """Some cell of the kind, another for each i; null where null_each divides i."""
    if null_each and i % null_each == 0:
        return None
    if kind == 0:
        return (i * 2654435761 + i * i * 40503) * 2 ** 20 % 2 ** 64 - 2 ** 63
    return bytes((i * 31 + j * j * 7 + i * j) % 256 for j in range(i * 7 % 41))


def rows_for(kinds, count, null_each=0):
    return [[cell_for(kind, i + 3 * j, null_each) for j, kind in enumerate(kinds)] for i in range(count)]


def column_rows(columns):
    """Rows of columns that are given each by itself."""
    return [list(row) for row in zip(*columns)]


def sample_tables():
    """Triples of g, kinds, rows: the edges of a table, both kinds, with and without nulls."""
    out = [(g, kinds, []) for g in (1, 64) for kinds in ([0], [1], [0, 1] * 4)]
    for kinds in ([0], [1], [1, 0], [0, 0, 1]):
        for g, count in ((1, 1), (1, 3), (4, 1), (4, 4), (4, 5), (4, 11), (64, 1), (64, 64), (64, 65)):
            for null_each in (0, 1, 2, 3):
                out.append((g, kinds, rows_for(kinds, count, null_each)))
    out += [(64, [0, 1, 0], rows_for([0, 1, 0], 256, 5)), (1, [0], [[1]] * 256), (63, [1], rows_for([1], 256)),
            (64, [0] * 8, rows_for([0] * 8, 70, 4)), (2, [1] * 8, rows_for([1] * 8, 5)),
            (7, [0, 1] * 4, rows_for([0, 1] * 4, 20, 2))]
    out += [(64, [kind], [[cell] for cell in cells]) for kind, cells in sample_cells() if cells]
    return out


def drawn_table(draw):
    """A table whose file isn't longer than files may be."""
    kinds = [draw.below(2) for _ in range(1 + draw.below(8))]
    g = draw.pick([1, 2, 3, 5, 8, 63, 64, 1 + draw.below(64)])
    columns = [[] for _ in kinds]
    for column, kind in zip(columns, kinds):
        while len(column) < 20:
            column.extend(drawn_cells(draw, kind))
    rows = column_rows(columns)[:draw.below(40)]
    while len(right_file(g, kinds, rows)) > 16384:
        rows = rows[:len(rows) // 2]
    return g, kinds, rows
