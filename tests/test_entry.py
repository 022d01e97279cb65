import unittest

from helpers import (TOP, Draw, drawn_table, file_parts, handed, handed_rows, joined, page_of, part_places, right_file,
                     rows_for, s, sample_tables, wrong_files)
from pagefiles.pages import entry, file, look, open_of, page


def pages_told(g, kinds, rows):
    """Of each page its group, its column, its place, and its cells, gone through from the left."""
    out, at = [], 12 + len(kinds)
    for i in range(-(-len(rows) // g)):
        at += 8
        for j, kind in enumerate(kinds):
            cells = [row[j] for row in rows[g * i:g * i + g]]
            out.append((i, j, at, cells))
            at += page(kind, handed(cells))[0]
    return out


class Found(unittest.TestCase):
    def check_entries(self, g, kinds, rows):
        data = file(g, kinds, handed_rows(rows))[2:]
        for i, j, at, cells in pages_told(g, kinds, rows):
            written = page(kinds[j], handed(cells))[2:]
            self.assertEqual(entry(i, j, data), [0, 3, at, len(written), cells.count(None)])
            self.assertEqual(data[at:at + len(written)], written)
            self.assertEqual(look(kinds[j], written)[-1], cells.count(None))
        self.assertEqual(entry(-(-len(rows) // g), 0, data), [-4])
        self.assertEqual(entry(0, len(kinds), data), [-4])

    def test_written_by_hand(self):
        data = file(2, [0, 1], [1, 5, 0, 0, 1, 1, 9, 1, 7, 1, 0])[2:]
        self.assertEqual(entry(0, 0, data), [0, 3, 22, 29, 1])
        self.assertEqual(entry(0, 1, data), [0, 3, 51, 26, 1])
        self.assertEqual(entry(1, 0, data), [0, 3, 85, 28, 0])
        self.assertEqual(entry(1, 1, data), [0, 3, 113, 24, 0])

    def test_samples(self):
        for g, kinds, rows in sample_tables():
            if len(rows) <= 70:
                with self.subTest(g=g, kinds=kinds, rows=len(rows)):
                    self.check_entries(g, kinds, rows)

    def test_eight_columns(self):
        for kinds in ([0] * 8, [1] * 8, [0, 1] * 4):
            for g in (1, 3, 64):
                for null_each in (0, 1, 2):
                    self.check_entries(g, kinds, rows_for(kinds, 5, null_each))

    def test_256_groups(self):
        rows = [[None if i % 5 == 0 else i] for i in range(256)]
        data = right_file(1, [0], rows)
        places = {i: (at, cells) for i, _, at, cells in pages_told(1, [0], rows)}
        for i in (0, 1, 127, 128, 254, 255):
            at, cells = places[i]
            self.assertEqual(entry(i, 0, data), [0, 3, at, len(page(0, handed(cells))) - 2, cells.count(None)])
        self.assertEqual(entry(256, 0, data), [-4])

    def test_all_of_64_null(self):
        data = right_file(64, [0, 1], [[None, None]] * 64)
        self.assertEqual(entry(0, 0, data), [0, 3, 22, 20, 64])
        self.assertEqual(entry(0, 1, data), [0, 3, 42, 20, 64])

    def test_longest_file(self):
        rows = [[bytes((i * 91 + j * j * 7 + i * j) % 256 for j in range(19 + (i < 217)))] for i in range(256)]
        data = right_file(1, [1], rows)
        self.assertEqual(len(data), 16384)
        at = pages_told(1, [1], rows)[-1][2]
        self.assertEqual(entry(255, 0, data), [0, 3, at, len(page(1, handed(rows[255]))) - 2, 0])

    def test_drawn(self):
        draw = Draw(17)
        for _ in range(150):
            g, kinds, rows = drawn_table(draw)
            data = right_file(g, kinds, rows)
            told = pages_told(g, kinds, rows)
            for i, j, at, cells in [draw.pick(told) for _ in range(3)] if told else []:
                written = page(kinds[j], handed(cells))[2:]
                self.assertEqual(entry(i, j, data), [0, 3, at, len(written), cells.count(None)])
                self.assertEqual(data[at:at + len(written)], written)


class Refused(unittest.TestCase):
    def test_no_such_group(self):
        for g, kinds, rows in ((4, [0], rows_for([0], 1)), (2, [0, 1], rows_for([0, 1], 5, 2)), (1, [1] * 8, rows_for([1] * 8, 2))):
            data = right_file(g, kinds, rows)
            groups = -(-len(rows) // g)
            self.assertEqual(entry(groups - 1, 0, data)[0], 0)
            for i in (groups, groups + 1, groups * len(kinds), 256, 2 ** 32, 2 ** 63, TOP):
                for j in (0, len(kinds) - 1, len(kinds), TOP):
                    self.assertEqual(entry(i, j, data), [-4])

    def test_no_such_column(self):
        for g, kinds, rows in ((4, [0], rows_for([0], 9)), (2, [0, 1], rows_for([0, 1], 5, 2)), (1, [1] * 8, rows_for([1] * 8, 2))):
            data = right_file(g, kinds, rows)
            self.assertEqual(entry(0, len(kinds) - 1, data)[0], 0)
            for j in (len(kinds), len(kinds) + 1, 256, 2 ** 32, 2 ** 63, TOP):
                for i in (0, 1, TOP):
                    self.assertEqual(entry(i, j, data), [-4])

    def test_without_rows(self):
        for g in (1, 64):
            for kinds in ([0], [1], [0, 1] * 4):
                data = right_file(g, kinds, [])
                for i, j in ((0, 0), (0, 7), (0, 8), (1, 0), (TOP, 0), (0, TOP), (TOP, TOP)):
                    self.assertEqual(entry(i, j, data), [-4])

    def test_where_it_goes_wrong_comes_ahead_of_no_such_page(self):
        for g, kinds, rows in ((4, [0], []), (4, [0, 1], rows_for([0, 1], 6, 4)), (1, [1] * 3, rows_for([1] * 3, 2))):
            for wrong, place in wrong_files(g, kinds, rows):
                self.assertEqual(open_of(wrong), [-2, 1, place])
                for i, j in ((0, 0), (1, 0), (0, len(kinds)), (99, 0), (TOP, TOP)):
                    self.assertEqual(entry(i, j, wrong), [-2, 1, place])

    def test_page_in_another_way(self):
        parts = file_parts(4, [0], [[5]])
        whole = joined(parts[:6] + [("page", bytes(page_of(1, 0, 1, 0, s(5))))] + parts[7:])
        for i, j in ((0, 0), (1, 0), (0, 1)):
            self.assertEqual(entry(i, j, whole), [-2, 1, part_places(parts)[6][1]])

    def test_too_long_comes_first(self):
        right = right_file(4, [0], [[5]])
        for data in ([0] * 16385, [255] * 20000, right + [0] * 16384):
            for i, j in ((0, 0), (1, 0), (0, 1), (TOP, TOP)):
                self.assertEqual(entry(i, j, data), [-6])
        padded = right + [0] * (16384 - len(right))
        self.assertEqual(entry(TOP, TOP, padded), [-2, 1, len(right)])


class ByItself(unittest.TestCase):
    def test_handed_in_is_as_it_was(self):
        for g, kinds, rows in sample_tables()[::6]:
            right = right_file(g, kinds, rows)
            for data in (right, right[:-1], right + [0], [0] * 16385):
                copy = list(data)
                for i in (0, TOP):
                    first = entry(i, 0, data)
                    self.assertEqual(data, copy)
                    self.assertEqual({x.__class__ for x in first}, {int})
                    first_copy = list(first)
                    first.append(99)
                    self.assertEqual(entry(i, 0, data), first_copy)
