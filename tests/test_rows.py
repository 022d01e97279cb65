import unittest

from helpers import (GREATEST, LEAST, TOP, Draw, drawn_table, file_parts, handed_rows, joined, page_of, part_places, right_file,
                     rows_for, s, sample_tables, wrong_files)
from pagefiles.pages import file, open_of, rows


def told(table_rows):
    numbers = handed_rows(table_rows)
    return [len(table_rows), len(numbers)] + numbers


class Back(unittest.TestCase):
    def test_written_by_hand(self):
        data = file(2, [0, 1], [1, 5, 0, 0, 1, 1, 9, 1, 7, 1, 0])[2:]
        self.assertEqual(rows(0, 3, data), [3, 11, 1, 5, 0, 0, 1, 1, 9, 1, 7, 1, 0])
        self.assertEqual(rows(0, 1, data), [1, 3, 1, 5, 0])
        self.assertEqual(rows(1, 1, data), [1, 4, 0, 1, 1, 9])
        self.assertEqual(rows(1, 2, data), [2, 8, 0, 1, 1, 9, 1, 7, 1, 0])
        self.assertEqual(rows(2, 1, data), [1, 4, 1, 7, 1, 0])

    def test_whole(self):
        for g, kinds, table_rows in sample_tables():
            written = file(g, kinds, handed_rows(table_rows))[2:]
            self.assertEqual(rows(0, len(table_rows), written), told(table_rows))

    def test_every_part(self):
        for g in (1, 2, 3, 4, 11, 64):
            for kinds in ([0], [1], [0, 1], [1, 1, 0]):
                table_rows = rows_for(kinds, 11, 3)
                data = right_file(g, kinds, table_rows)
                for start in range(12):
                    for n in range(12 - start):
                        self.assertEqual(rows(start, n, data), told(table_rows[start:start + n]))

    def test_256_rows(self):
        table_rows = [[i * i, b"ab" * (i % 4), None if i % 3 else LEAST] for i in range(256)]
        for g in (63, 64):
            data = right_file(g, [0, 1, 0], table_rows)
            self.assertEqual(rows(0, 256, data), told(table_rows))
            self.assertEqual(rows(60, 140, data), told(table_rows[60:200]))
            self.assertEqual(rows(255, 1, data), told(table_rows[255:]))
            self.assertEqual(rows(256, 0, data), [0, 0])
            self.assertEqual(rows(255, 2, data), [-4])

    def test_longest_file(self):
        table_rows = [[bytes((i * 91 + j * j * 7 + i * j) % 256 for j in range(19 + (i < 217)))] for i in range(256)]
        data = right_file(1, [1], table_rows)
        self.assertEqual(len(data), 16384)
        self.assertEqual(rows(0, 256, data), told(table_rows))

    def test_eight_columns_and_edges(self):
        table_rows = [[LEAST, b"", GREATEST, b"\xff" * 40, None, None, 0, b"\0"], [0, None, -1, b"\0" * 40, 1, b"z", None, b""]]
        kinds = [0, 1] * 4
        for g in (1, 2, 64):
            data = file(g, kinds, handed_rows(table_rows))[2:]
            self.assertEqual(rows(0, 2, data), told(table_rows))
            self.assertEqual(rows(1, 1, data), told(table_rows[1:]))

    def test_drawn(self):
        draw = Draw(13)
        for _ in range(200):
            g, kinds, table_rows = drawn_table(draw)
            written = file(g, kinds, handed_rows(table_rows))[2:]
            start = draw.below(len(table_rows) + 1)
            n = draw.below(len(table_rows) - start + 1)
            self.assertEqual(rows(0, len(table_rows), written), told(table_rows))
            self.assertEqual(rows(start, n, written), told(table_rows[start:start + n]))
            self.assertEqual(file(g, kinds, rows(0, len(table_rows), written)[2:])[2:], written)

    def test_none_of_them(self):
        for g, kinds, table_rows in sample_tables():
            data = right_file(g, kinds, table_rows)
            for start in (0, len(table_rows) // 2, len(table_rows)):
                self.assertEqual(rows(start, 0, data), [0, 0])


class Refused(unittest.TestCase):
    def test_too_few(self):
        for g, kinds, table_rows in sample_tables()[::3]:
            data = right_file(g, kinds, table_rows)
            n = len(table_rows)
            for start, count in ((0, n + 1), (n, 1), (n + 1, 0), (1, n), (n // 2, n - n // 2 + 1), (0, TOP), (TOP, 0), (TOP, 1),
                                 (1, TOP), (TOP, TOP), (2 ** 63, 2 ** 63), (n, TOP - n + 1), (2 ** 32, 0), (0, 2 ** 32)):
                self.assertEqual(rows(start, count, data), [-4])

    def test_too_few_counts_the_last_group_as_it_is(self):
        data = right_file(4, [0], [[i] for i in range(6)])
        self.assertEqual(rows(5, 1, data), [1, 2, 1, 5])
        for start, n in ((6, 1), (7, 0), (5, 2), (0, 8), (7, 1)):
            self.assertEqual(rows(start, n, data), [-4])

    def test_where_it_goes_wrong_comes_ahead_of_too_few(self):
        for g, kinds, table_rows in ((4, [0], []), (4, [0, 1], rows_for([0, 1], 6, 4)), (1, [1] * 3, rows_for([1] * 3, 2))):
            for wrong, place in wrong_files(g, kinds, table_rows):
                self.assertEqual(open_of(wrong), [-2, 1, place])
                for start, n in ((0, 0), (0, len(table_rows)), (0, len(table_rows) + 1), (TOP, TOP), (TOP, 0), (0, TOP)):
                    self.assertEqual(rows(start, n, wrong), [-2, 1, place])

    def test_page_in_another_way(self):
        parts = file_parts(4, [0], [[5]])
        whole = joined(parts[:6] + [("page", bytes(page_of(1, 0, 1, 0, s(5))))] + parts[7:])
        for start, n in ((0, 0), (0, 1), (0, 2)):
            self.assertEqual(rows(start, n, whole), [-2, 1, part_places(parts)[6][1]])

    def test_too_long_comes_first(self):
        right = right_file(4, [0], [[5]])
        for data in ([0] * 16385, [255] * 20000, right + [0] * 16384):
            for start, n in ((0, 0), (0, 1), (1, 1), (TOP, TOP)):
                self.assertEqual(rows(start, n, data), [-6])
        padded = right + [0] * (16384 - len(right))
        self.assertEqual(rows(TOP, TOP, padded), [-2, 1, len(right)])


class ByItself(unittest.TestCase):
    def test_handed_in_is_as_it_was(self):
        for g, kinds, table_rows in sample_tables()[::4]:
            right = right_file(g, kinds, table_rows)
            for data in (right, right[:-1], right + [0], [0] * 16385):
                copy = list(data)
                for n in (0, len(table_rows), TOP):
                    first = rows(0, n, data)
                    self.assertEqual(data, copy)
                    self.assertEqual({x.__class__ for x in first}, {int})
                    first_copy = list(first)
                    first.append(99)
                    self.assertEqual(rows(0, n, data), first_copy)
