import unittest

from helpers import (GREATEST, LEAST, MARK, VALUES_IN_WAY, Draw, checked, drawn_table, end_of, file_parts, foot_of,
                     handed_rows, joined, null_map, page_of, part_places, parts_of_groups, resealed, right_file,
                     right_page, rows_for, sample_tables, u, way_of, ways, with_nulls)
from pagefiles.pages import file, judge, look, open_of


def first_wrong(data):
    """Where the bytes first go wrong, told part by part; None where they don't."""
    if data[:6] != list(MARK):
        return 0
    if not data[6:7] or data[6] not in range(1, 9):
        return 6
    if not data[7:8] or data[7] not in range(1, 65):
        return 7
    c, g, kinds = data[6], data[7], data[8:8 + data[6]]
    if len(kinds) < c or any(kind > 1 for kind in kinds):
        return 8
    if data[:12 + c] != list(checked(bytes(data[:8 + c]))):
        return 8 + c
    at, counts, entries = 12 + c, [], []
    while data[at:at + 4] != [70, 0, 0, 0]:
        n = int.from_bytes(bytes(data[at + 4:at + 8]), "little")
        if len(data) < at + 8 or data[at:at + 4] != [71, 0, 0, 0] or n < 1 or n > g:
            return at
        if sum(counts) + n > 256 or any(count < g for count in counts):
            return at
        at, counts = at + 8, counts + [n]
        for kind in kinds:
            size = 20 + int.from_bytes(bytes(data[at + 12:at + 16]), "little")
            page = data[at:at + size]
            if judge(kind, page) != [1] or look(kind, page)[4] != n:
                return at
            entries.append((at, size, look(kind, page)[5]))
            at += size
    foot = list(foot_of(entries, len(counts), sum(counts)))
    for part in (foot, list(end_of(foot))):
        if data[at:at + len(part)] != part:
            return at
        at += len(part)
    return at if len(data) > at else None


def small_tables():
    return [(g, kinds, rows) for g, kinds, rows in sample_tables() if len(right_file(g, kinds, rows)) < 260]


TABLES = [
    (4, [0], []),
    (4, [0, 1], rows_for([0, 1], 3, 2)),
    (2, [1, 0, 1], rows_for([1, 0, 1], 4)),
    (3, [0, 1] * 4, rows_for([0, 1] * 4, 5, 3)),
    (1, [1], rows_for([1], 4, 2)),
]


class Right(unittest.TestCase):
    def check_open(self, g, kinds, rows):
        groups = -(-len(rows) // g)
        expected = [groups, 3, len(kinds), len(rows), g, len(kinds)] + kinds
        self.assertEqual(open_of(right_file(g, kinds, rows)), expected)

    def test_written_by_hand(self):
        self.assertEqual(open_of(file(5, [1, 0], [])[2:]), [0, 3, 2, 0, 5, 2, 1, 0])
        self.assertEqual(open_of(file(2, [0], [1, 5])[2:]), [1, 3, 1, 1, 2, 1, 0])
        self.assertEqual(open_of(file(2, [0, 1], [1, 5, 0, 0, 1, 1, 9, 1, 7, 1, 0])[2:]), [2, 3, 2, 3, 2, 2, 0, 1])

    def test_samples(self):
        for g, kinds, rows in sample_tables():
            self.check_open(g, kinds, rows)
            self.assertEqual(first_wrong(right_file(g, kinds, rows)), None)

    def test_what_file_writes(self):
        draw = Draw(10)
        for _ in range(200):
            g, kinds, rows = drawn_table(draw)
            self.check_open(g, kinds, rows)
            self.assertEqual(open_of(file(g, kinds, handed_rows(rows))[2:])[0], -(-len(rows) // g))

    def test_256_rows(self):
        for g in (1, 2, 63, 64):
            self.check_open(g, [0], [[i // 9 if i % 7 else None] for i in range(256)])
        self.check_open(64, [0, 1] * 4, [[i, b"a" * (i % 3)] * 4 for i in range(256)])

    def test_each_g(self):
        for g in range(1, 65):
            for count in (0, 1, g, g + 1):
                self.check_open(g, [0, 1], [[i % 5, b"ab"[:i % 3]] for i in range(count)])


class TooLong(unittest.TestCase):
    def test_more_than_16384_comes_first(self):
        right = right_file(4, [0], [[5]])
        for start in ([], right, [1], list(MARK)):
            for fill in (0, 1, 70, 255):
                for length in (16385, 20000):
                    self.assertEqual(open_of(start + [fill] * (length - len(start))), [-6])
        rows = [[bytes((i * 91 + j * j * 7 + i * j) % 256 for j in range(40))] for i in range(256)]
        self.assertGreater(len(right_file(1, [1], rows)), 16384)
        self.assertEqual(open_of(right_file(1, [1], rows)[:20000]), [-6])

    def test_just_16384(self):
        rows = [[bytes((i * 91 + j * j * 7 + i * j) % 256 for j in range(19 + (i < 217)))] for i in range(256)]
        longest = right_file(1, [1], rows)
        self.assertEqual(len(longest), 16384)
        self.assertEqual(open_of(longest), [256, 3, 1, 256, 1, 1, 1])
        self.assertEqual(open_of(longest[:-1]), [-2, 1, 16374])
        self.assertEqual(open_of(longest + [0]), [-6])
        right = right_file(4, [0], [[5]])
        self.assertEqual(open_of(right + [0] * (16384 - len(right))), [-2, 1, len(right)])
        for fill in (0, 1, 70, 71, 255):
            self.assertEqual(open_of([fill] * 16384), [-2, 1, 0])


class GoesWrong(unittest.TestCase):
    def wrong(self, data, place):
        self.assertEqual(open_of(list(data)), [-2, 1, place])
        self.assertEqual(first_wrong(list(data)), place)

    def changed(self, parts, at, data):
        """The part at that turn is other bytes; it's there that the file goes wrong."""
        whole = parts[:at] + [(parts[at][0], data)] + parts[at + 1:]
        self.wrong(joined(whole), part_places(parts)[at][1])

    def turns(self, parts, name):
        return [at for at, part in enumerate(parts) if part[0] == name]

    def head(self, c, g, kinds):
        return checked(MARK + bytes([c, g]) + bytes(kinds))

    def test_no_bytes(self):
        self.wrong([], 0)

    def test_ends_too_early(self):
        for g, kinds, rows in TABLES + small_tables():
            parts = file_parts(g, kinds, rows)
            right = joined(parts)
            for _, first, behind in part_places(parts):
                for end in range(first, behind):
                    self.assertEqual(open_of(right[:end]), [-2, 1, first])

    def test_ends_just_behind_a_part(self):
        for g, kinds, rows in TABLES:
            parts = file_parts(g, kinds, rows)
            for _, _, behind in part_places(parts)[:-1]:
                self.wrong(joined(parts)[:behind], behind)

    def test_more_behind(self):
        for g, kinds, rows in TABLES + small_tables():
            right = right_file(g, kinds, rows)
            for more in ([0], [70], [255], [80, 65], [70, 0, 0, 0], right):
                self.wrong(right + more, len(right))

    def test_mark(self):
        for g, kinds, rows in TABLES:
            right = right_file(g, kinds, rows)
            for at in range(6):
                for other in (0, 1, 70, 255):
                    self.wrong(right[:at] + [other] + right[at + 1:], 0)
            self.wrong(right[1:], 0)
            self.wrong([0] + right, 0)

    def test_number_of_columns(self):
        for c in (0, 9, 10, 128, 255):
            self.wrong(self.head(c, 4, [0] * c) + foot_of([], 0, 0), 6)
            self.wrong(MARK + bytes([c]), 6)
            self.wrong(self.head(c, 0, [2]), 6)

    def test_g(self):
        for g in (0, 65, 66, 128, 255):
            foot = foot_of([], 0, 0)
            self.wrong(self.head(1, g, [0]) + foot + end_of(foot), 7)
            self.wrong(self.head(8, g, [2] * 8), 7)
            self.wrong(MARK + bytes([1, g]), 7)

    def test_kinds_together(self):
        foot = foot_of([], 0, 0)
        for kind in (2, 3, 128, 255):
            for kinds in ([kind], [0, kind], [1, 0, kind], [0] * 7 + [kind], [kind] + [1] * 7):
                self.wrong(self.head(len(kinds), 4, kinds) + foot + end_of(foot), 8)
        for end in range(8):
            self.wrong(MARK + bytes([8, 4]) + bytes(end), 8)

    def test_heads_check(self):
        for g, kinds, rows in TABLES:
            parts = file_parts(g, kinds, rows)
            for bit in range(32):
                data = bytearray(parts[4][1])
                data[bit // 8] ^= 1 << bit % 8
                self.changed(parts, 4, bytes(data))
        self.wrong(MARK + bytes([1, 5, 0]) + self.head(1, 4, [0])[-4:] + foot_of([], 0, 0), 9)
        self.wrong(MARK + bytes([1, 4, 1]) + self.head(1, 4, [0])[-4:] + foot_of([], 0, 0), 9)

    def wrong_group(self, g, kinds, groups, turn):
        parts = parts_of_groups(g, kinds, groups)
        place = part_places(parts)[self.turns(parts, "group")[turn]][1]
        self.wrong(joined(parts), place)

    def test_group_behind_one_of_fewer_rows(self):
        rows = rows_for([0, 1], 12, 3)
        self.wrong_group(4, [0, 1], [rows[:3], rows[3:7]], 1)
        self.wrong_group(4, [0, 1], [rows[:1], rows[1:2]], 1)
        self.wrong_group(4, [0, 1], [rows[:4], rows[4:6], rows[6:8]], 2)
        self.wrong_group(64, [0, 1], [rows[:1], rows[1:2], rows[2:]], 1)

    def test_group_of_no_rows(self):
        rows = rows_for([0, 1], 12, 3)
        self.wrong_group(4, [0, 1], [[]], 0)
        self.wrong_group(4, [0, 1], [rows[:4], []], 1)
        self.wrong_group(4, [0, 1], [[], rows[:4]], 0)
        self.wrong_group(1, [0, 1], [rows[:1], [], rows[:1]], 1)

    def test_group_of_more_than_g_rows(self):
        rows = rows_for([0, 1], 64, 3)
        for g in (1, 2, 5, 63):
            self.wrong_group(g, [0, 1], [rows[:g + 1]], 0)
            self.wrong_group(g, [0, 1], [rows[:g], rows[:g + 1]], 1)
            self.wrong_group(g, [0, 1], [rows], 0)

    def test_more_than_256_rows(self):
        group = [[i % 3] for i in range(64)]
        self.wrong_group(64, [0], [group] * 4 + [group[:1]], 4)
        self.wrong_group(64, [0], [group] * 5, 4)
        self.wrong_group(63, [0], [group[:63]] * 4 + [group[:5]], 4)
        self.wrong_group(1, [0], [group[:1]] * 257, 256)
        self.wrong_group(60, [0], [group[:60]] * 5, 4)
        self.assertEqual(open_of(joined(parts_of_groups(63, [0], [group[:63]] * 4 + [group[:4]])))[0], 5)
        self.assertEqual(open_of(joined(parts_of_groups(1, [0], [group[:1]] * 256)))[0], 256)

    def test_groups_8_bytes(self):
        for g, kinds, rows in TABLES[1:]:
            parts = file_parts(g, kinds, rows)
            for turn in self.turns(parts, "group"):
                right = parts[turn][1]
                for at in (0, 1, 2, 3, 5, 6, 7):
                    for other in (1, 255, 70):
                        self.changed(parts, turn, right[:at] + bytes([other]) + right[at + 1:])
                for n in (0, g + 1, 65, 255, 2 ** 32 - 1, 2 ** 31 + 1, 256 + len(rows)):
                    self.changed(parts, turn, right[:4] + u(n))
                self.changed(parts, turn, b"F\0\0\0" + right[4:])

    def test_group_of_other_rows_than_its_pages(self):
        parts = file_parts(4, [0, 1], rows_for([0, 1], 3))
        for n in (1, 2, 4):
            whole = parts[:5] + [("group", b"G\0\0\0" + u(n))] + parts[6:]
            self.wrong(joined(whole), part_places(parts)[6][1])

    def test_page_of_other_cells_than_the_group(self):
        rows = rows_for([0, 1, 0], 7, 3)
        parts = file_parts(4, [0, 1, 0], rows)
        for turn in self.turns(parts, "page"):
            kind = [0, 1, 0][(turn - 6) % 4]
            for n in (0, 1, 2, 5, 64):
                self.changed(parts, turn, bytes(right_page(kind, [row[kind] for row in rows_for([0, 1], n)])))

    def test_page_for_the_other_kind(self):
        for kind, _, values in VALUES_IN_WAY:
            for cells in (values, with_nulls(values)):
                rows = [[cell, cell] for cell in cells]
                parts = file_parts(64, [kind, kind], rows)
                other = file_parts(64, [kind, 1 - kind], [])
                whole = other[:5] + parts[5:]
                self.wrong(joined(whole), part_places(parts)[7][1])

    def test_page_in_another_way(self):
        for kind, _, values in VALUES_IN_WAY:
            cells = with_nulls(values)
            marks = null_map(cells)
            kept = [cell for cell in cells if cell is not None]
            parts = file_parts(64, [0, kind], [[i, cell] for i, cell in enumerate(cells)])
            for e, body in enumerate(ways(kind, kept)):
                if body is not None and e != way_of(kind, kept):
                    self.changed(parts, 7, bytes(page_of(e, 2, len(cells), 3, marks + body)))

    def test_page_damaged(self):
        for g, kinds, rows in TABLES[1:]:
            parts = file_parts(g, kinds, rows)
            for turn in self.turns(parts, "page"):
                right = parts[turn][1]
                for at in range(len(right)):
                    for other in (1, 128, 255):
                        self.changed(parts, turn, right[:at] + bytes([right[at] ^ other]) + right[at + 1:])
                for at in (0, 1, 2, 3, 5, 6, 7, 9, 10, 11, 12, 13, 14, 15):
                    data = list(right)
                    data[at] ^= 128
                    self.changed(parts, turn, bytes(resealed(data)))
                self.changed(parts, turn, bytes(resealed(list(right) + [0])))
                self.changed(parts, turn, b"")

    def test_page_that_would_reach_beyond_the_end(self):
        parts = file_parts(4, [0], [[5], [6]])
        right = parts[6][1]
        for length in (len(right), 100, 16384, 2 ** 31, 2 ** 32 - 1):
            self.changed(parts, 6, bytes(resealed(list(right[:12] + u(length) + right[16:]))))

    def foot_numbers(self, parts):
        data = parts[-2][1][8:-8]
        return [[int.from_bytes(data[at + i:at + i + 4], "little") for i in (0, 4, 8)] for at in range(0, len(data), 12)]

    def wrong_foot(self, parts, foot):
        self.assertNotEqual(foot, parts[-2][1])
        self.changed(parts[:-1] + [("end", end_of(foot))], len(parts) - 2, foot)

    def test_foot_with_a_check_that_fits(self):
        for g, kinds, rows in TABLES:
            parts = file_parts(g, kinds, rows)
            entries, groups, n = self.foot_numbers(parts), -(-len(rows) // g), len(rows)
            self.assertEqual(foot_of(entries, groups, n), parts[-2][1])
            for other in (groups + 1, groups + 256, 2 ** 32 - 1) + ((groups - 1,) if groups else ()):
                self.wrong_foot(parts, foot_of(entries, other, n))
            for other in (n + 1, n + g, n + 256, 2 ** 32 - 1) + ((n - 1, 0) if n else ()):
                self.wrong_foot(parts, foot_of(entries, groups, other))
            for turn in range(len(entries)):
                for which in range(3):
                    for other in (1, 2, 2 ** 16, 2 ** 31):
                        changed = [list(entry) for entry in entries]
                        changed[turn][which] ^= other
                        self.wrong_foot(parts, foot_of(changed, groups, n))
                self.wrong_foot(parts, foot_of(entries[:turn] + entries[turn + 1:], groups, n))
                if turn:
                    self.wrong_foot(parts, foot_of(entries[turn:] + entries[:turn], groups, n))
            self.wrong_foot(parts, foot_of(entries + [(0, 0, 0)], groups, n))

    def test_foot_damaged(self):
        for g, kinds, rows in TABLES:
            parts = file_parts(g, kinds, rows)
            right = parts[-2][1]
            for at in range(4, len(right)):
                for other in (1, 128, 255):
                    self.changed(parts, len(parts) - 2, right[:at] + bytes([right[at] ^ other]) + right[at + 1:])
            self.changed(parts, len(parts) - 2, checked(b"F\0\0\0"))

    def test_what_stands_there_is_no_foot(self):
        for g, kinds, rows in TABLES:
            parts = file_parts(g, kinds, rows)
            right = parts[-2][1]
            for mark in (b"\0\0\0\0", b"F\1\0\0", b"F\0\1\0", b"F\0\0\1", b"H\0\0\0", b"PAGE"):
                self.changed(parts, len(parts) - 2, checked(mark + right[4:-4]))

    def test_a_foot_that_begins_like_a_group(self):
        """Behind full groups, 71 0 0 0 and a number of rows that may be is a group; then its page goes wrong."""
        rows = rows_for([0], 4)
        parts = file_parts(2, [0], rows)
        whole = parts[:-2] + [("foot", checked(b"G" + parts[-2][1][1:-4])), parts[-1]]
        self.wrong(joined(whole), part_places(parts)[-2][1] + 8)
        parts = file_parts(2, [0], rows[:3])
        whole = parts[:-2] + [("foot", checked(b"G" + parts[-2][1][1:-4])), parts[-1]]
        self.wrong(joined(whole), part_places(parts)[-2][1])

    def test_a_group_where_the_foot_begins_too_early(self):
        parts = file_parts(2, [0], rows_for([0], 4))
        place = part_places(parts)[7][1]
        self.wrong(joined(parts[:7] + parts[-2:]), place)
        self.wrong(joined(parts[:5] + parts[-2:]), part_places(parts)[5][1])
        fewer = file_parts(2, [0], rows_for([0], 2))
        self.wrong(joined(parts[:-2] + fewer[-2:]), part_places(parts)[-2][1])

    def test_last_ten_bytes(self):
        for g, kinds, rows in TABLES:
            parts = file_parts(g, kinds, rows)
            right, foot = parts[-1][1], parts[-2][1]
            for at in range(10):
                for other in (1, 128, 255):
                    self.changed(parts, len(parts) - 1, right[:at] + bytes([right[at] ^ other]) + right[at + 1:])
            for length in (0, len(foot) - 4, len(foot) + 4, len(foot) + 10, len(foot) - 8, 2 ** 32 - 1):
                self.changed(parts, len(parts) - 1, u(length) + MARK)
            self.changed(parts, len(parts) - 1, MARK)

    def test_each_byte_of_small_files(self):
        """Whatever one byte is changed to, it goes wrong where the parts, gone through one by one, say."""
        for g, kinds, rows in TABLES[:2] + [(2, [0], [[LEAST], [GREATEST], [None]]), (1, [1], [[b"a"], [None]])]:
            right = right_file(g, kinds, rows)
            for at in range(len(right)):
                for other in range(256) if at < 40 else (0, 1, 2, 70, 71, 255):
                    data = right[:at] + [other] + right[at + 1:]
                    place = first_wrong(data)
                    self.assertEqual(place is None, data == right)
                    if place is not None:
                        self.assertEqual(open_of(data), [-2, 1, place])

    def test_the_first_of_several(self):
        draw = Draw(11)
        for _ in range(400):
            g, kinds, rows = draw.pick(TABLES)
            parts = file_parts(g, kinds, rows)
            data, places = joined(parts), part_places(parts)
            hits = sorted({draw.below(len(data)) for _ in range(3)})
            for at in hits:
                data[at] ^= 128
            self.wrong(data, [first for _, first, behind in places if first <= hits[0] < behind][0])

    def test_spliced(self):
        draw = Draw(12)
        for _ in range(600):
            one, other = joined(file_parts(*draw.pick(TABLES))), joined(file_parts(*draw.pick(TABLES)))
            data = one[:draw.below(len(one) + 1)] + other[draw.below(len(other) + 1):]
            place = first_wrong(data)
            if place is not None:
                self.assertEqual(open_of(data), [-2, 1, place])
            else:
                self.assertGreaterEqual(open_of(data)[0], 0)

    def test_only_what_file_writes(self):
        """No rows make a file that goes wrong; what opens is the file of its rows, so no two files have the same."""
        for g, kinds, rows in TABLES:
            for other_g in range(1, 65):
                data = right_file(other_g, kinds, rows)
                self.assertEqual(open_of(data)[4], other_g)
                self.assertEqual(data, file(other_g, kinds, handed_rows(rows))[2:])


class ByItself(unittest.TestCase):
    def test_handed_in_is_as_it_was(self):
        for g, kinds, rows in TABLES + small_tables():
            right = right_file(g, kinds, rows)
            for data in (right, right[:-1], right[:len(right) // 2], right + [0], [], [0] * 16385):
                copy = list(data)
                first = open_of(data)
                self.assertEqual(data, copy)
                self.assertEqual({x.__class__ for x in first}, {int})
                first_copy = list(first)
                first.append(99)
                self.assertEqual(open_of(data), first_copy)
