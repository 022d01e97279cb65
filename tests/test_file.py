import unittest

from helpers import (GREATEST, LEAST, TOP, VALUES_IN_WAY, Draw, column_rows, crc32c, drawn_table, handed, handed_rows,
                     right_file, rows_for, sample_tables, u, with_nulls)
from pagefiles.pages import file, page


def number(the_bytes, at):
    return int.from_bytes(bytes(the_bytes[at:at + 4]), "little")


class FileBytes(unittest.TestCase):
    def check_file(self, g, kinds, rows):
        expected = right_file(g, kinds, rows)
        self.assertLessEqual(len(expected), 16384)
        self.assertEqual(file(g, kinds, handed_rows(rows)), [len(expected)] * 2 + expected)

    def test_written_by_hand_without_rows(self):
        head = [80, 65, 71, 69, 83, 49, 2, 5, 1, 0]
        foot = [70, 0, 0, 0, 0, 0, 0, 0, 0, 0, 0, 0]
        expected = head + list(u(crc32c(head))) + foot + list(u(crc32c(foot))) + [16, 0, 0, 0] + head[:6]
        self.assertEqual(file(5, [1, 0], []), [40, 40] + expected)

    def test_written_by_hand_with_rows(self):
        head = [80, 65, 71, 69, 83, 49, 2, 2, 0, 1]
        out = head + list(u(crc32c(head)))
        pages = [page(0, [1, 5, 0])[2:], page(1, [0, 1, 1, 9])[2:], page(0, [1, 7])[2:], page(1, [1, 0])[2:]]
        self.assertEqual([len(x) for x in pages], [29, 26, 28, 24])
        out += [71, 0, 0, 0, 2, 0, 0, 0] + pages[0] + pages[1] + [71, 0, 0, 0, 1, 0, 0, 0] + pages[2] + pages[3]
        foot = [70, 0, 0, 0, 2, 0, 0, 0]
        for told in ((22, 29, 1), (51, 26, 1), (85, 28, 0), (113, 24, 0), (3,)):
            for x in told:
                foot += [x, 0, 0, 0]
        foot += list(u(crc32c(foot)))
        out += foot + [64, 0, 0, 0] + head[:6]
        self.assertEqual(file(2, [0, 1], [1, 5, 0, 0, 1, 1, 9, 1, 7, 1, 0]), [211, 211] + out)

    def test_samples(self):
        for g, kinds, rows in sample_tables():
            with self.subTest(g=g, kinds=kinds, rows=len(rows)):
                self.check_file(g, kinds, rows)

    def test_each_g_and_about_as_many_rows(self):
        for g in range(1, 65):
            for count in (0, 1, g - 1, g, g + 1, 2 * g, 2 * g + 1):
                self.check_file(g, [0, 1], [[i % 5, b"ab"[:i % 3]] for i in range(count)])

    def test_256_rows(self):
        for g in (1, 2, 3, 63, 64):
            self.check_file(g, [0], [[i // 9 if i % 7 else None] for i in range(256)])
        self.check_file(64, [0, 1, 0, 1, 0, 1, 0, 1], [[i, b"a" * (i % 3)] * 4 for i in range(256)])
        self.check_file(64, [1] * 8, [[None] * 8] * 256)

    def test_each_way_in_a_column_of_its_own(self):
        columns = [with_nulls(values[:5] * 13)[:64] for _, _, values in VALUES_IN_WAY]
        for first in (0, 3):
            self.check_file(64, [kind for kind, _, _ in VALUES_IN_WAY][first:first + 8],
                            column_rows(columns[first:first + 8]))

    def test_values_at_the_edges(self):
        self.check_file(2, [0, 1], [[LEAST, b""], [GREATEST, b"\xff" * 40], [None, b"\0" * 40], [0, None]])

    def test_drawn(self):
        draw = Draw(9)
        for _ in range(300):
            self.check_file(*drawn_table(draw))

    def test_parts_stand_as_told(self):
        """The file taken apart by its own foot: each page is what page writes, where its entry says."""
        for g, kinds, rows in sample_tables():
            data = file(g, kinds, handed_rows(rows))[2:]
            c, groups = len(kinds), -(-len(rows) // g)
            self.assertEqual(data[:8 + c], [80, 65, 71, 69, 83, 49, c, g] + kinds)
            self.assertEqual(number(data, 8 + c), crc32c(data[:8 + c]))
            self.assertEqual(data[-6:], data[:6])
            length = number(data, len(data) - 10)
            self.assertEqual(length, 16 + 12 * c * groups)
            foot = data[-10 - length:-10]
            self.assertEqual(foot[:8], [70, 0, 0, 0, groups % 256, groups // 256, 0, 0])
            self.assertEqual(number(foot, length - 8), len(rows))
            self.assertEqual(number(foot, length - 4), crc32c(foot[:-4]))
            at = 12 + c
            for i in range(groups):
                group = rows[g * i:g * i + g]
                self.assertEqual(data[at:at + 8], [71, 0, 0, 0, len(group), 0, 0, 0])
                at += 8
                for j, kind in enumerate(kinds):
                    cells = [row[j] for row in group]
                    entry = [number(foot, 8 + 12 * (c * i + j) + k) for k in (0, 4, 8)]
                    self.assertEqual(entry, [at, page(kind, handed(cells))[0], cells.count(None)])
                    self.assertEqual(data[at:at + entry[1]], page(kind, handed(cells))[2:])
                    at += entry[1]
            self.assertEqual(at, len(data) - length - 10)


class FileRefusals(unittest.TestCase):
    def refused(self, g, kinds, rows):
        self.assertEqual(file(g, kinds, rows), [-1])

    def test_how_many_columns(self):
        for rows in ([], [0], [1, 5], [0] * 15000):
            self.refused(1, [], rows)
        self.assertEqual(file(1, [0] * 8, [])[0], 46)
        for count in (9, 10, 16, 64, 100):
            self.refused(1, [0] * count, [])
            self.refused(64, [1] * count, [0] * count)

    def test_kinds(self):
        for kind in (2, 3, 255, 256, TOP):
            for kinds in ([kind], [0, kind], [kind, 1], [0] * 7 + [kind], [1] * 7 + [kind], [kind] * 8, [kind] * 100):
                for rows in ([], [0] * len(kinds), [1, 0] * len(kinds), [0] * 15000):
                    self.refused(64, kinds, rows)

    def test_g(self):
        for g in (0, 65, 66, 128, 255, 256, 257, 2 ** 32 + 1, TOP):
            for rows in ([], [0], [1, 5] * 3, [0] * 15000):
                self.refused(g, [0], rows)
        self.assertEqual(file(1, [0], [])[0], 39)
        self.assertEqual(file(64, [0], [])[0], 39)

    def test_more_than_256_rows(self):
        for kinds in ([0], [1], [0, 1], [1, 0, 0]):
            for g in (1, 63, 64):
                row = [0] * len(kinds)
                if len(kinds) == 1 or g > 1:
                    self.assertGreater(file(g, kinds, row * 256)[0], 0)
                self.refused(g, kinds, row * 257)
                self.refused(g, kinds, row * 256 + [0])
                self.refused(g, kinds, row * 1000)
        self.refused(64, [0], [1, 5] * 257)
        self.refused(64, [1], [1, 0] * 257)

    def test_rows_that_end_within_a_row(self):
        for kinds in ([0, 0], [1, 1], [0, 1, 0], [1, 0] * 4):
            whole = handed_rows(rows_for(kinds, 3))
            ends = {len(handed_rows(rows_for(kinds, count))) for count in range(4)}
            for end in range(len(whole) + 1):
                self.assertEqual(file(2, kinds, whole[:end]) == [-1], end not in ends)
            for count in range(1, 3 * len(kinds)):
                if count % len(kinds):
                    self.refused(2, kinds, [0] * count)

    def test_rows_that_end_within_a_cell(self):
        self.refused(1, [0], [1])
        self.refused(1, [0], [1, 5, 1])
        self.refused(1, [1], [1])
        self.refused(1, [1], [1, 1])
        self.refused(1, [1], [1, 40] + [1] * 39)
        self.refused(1, [0, 1], [1, 5, 1, 2, 7])
        self.refused(1, [0, 1], [0, 0, 1])

    def test_number_out_of_range(self):
        for x in (LEAST - 1, GREATEST + 1, TOP, -TOP):
            self.refused(1, [0], [1, x])
            self.refused(1, [0], [1, 5, 1, x, 1, 5])
            self.refused(64, [1, 0], [1, 0, 1, 5, 1, 0, 1, x])

    def test_neither_0_nor_1(self):
        for first in (-1, 2, 3, 256, TOP, -TOP):
            self.refused(1, [0], [first])
            self.refused(1, [0], [first, 5])
            self.refused(1, [1], [0, first, 0])
            self.refused(8, [0, 1], [1, 5, first, 0])
            self.refused(8, [0, 1], [0, 0, first, 5, 0])

    def test_how_many_bytes(self):
        for count in (-1, -2, 41, 42, 255, TOP, -TOP):
            self.refused(1, [1], [1, count] + [0] * 41)
            self.refused(1, [1], [1, count])
            self.refused(1, [0, 1], [1, 5, 1, count] + [0] * 60)
        self.assertGreater(file(1, [1], [1, 40] + [0] * 40)[0], 0)

    def test_byte_out_of_range(self):
        for byte in (-1, 256, TOP, -TOP):
            for place in range(3):
                row = [1, 3, 0, 255, 0]
                row[2 + place] = byte
                self.refused(1, [1], row)
                self.refused(4, [1, 0], [0, 0] + row + [0])

    def test_kinds_in_turn(self):
        """A number where bytes are to stand, and the other way round."""
        self.refused(1, [0, 1], [1, 0, 1, 300])
        self.refused(1, [0, 1], [1, 2, 7, 8, 1, 5])
        self.assertGreater(file(1, [0, 1], [1, 300, 1, 0])[0], 0)


class TooLong(unittest.TestCase):
    def rows_of_length(self, g, width, count, length):
        """Rows of bytes whose file has just so many: no two of a page begin alike, so each byte more adds one."""
        cells = count * width
        shortest = len(right_file(g, [1] * width, self.rows_cut(width, [1] * cells)))
        each, rest = divmod(length - shortest, cells)
        return self.rows_cut(width, [1 + each + (i < rest) for i in range(cells)])

    def rows_cut(self, width, counts):
        cells = [bytes((i * 91 + j * j * 7 + i * j) % 256 for j in range(count)) for i, count in enumerate(counts)]
        return [cells[at:at + width] for at in range(0, len(cells), width)]

    def test_just_as_long_and_one_byte_longer(self):
        for g, width, count in ((1, 1, 256), (2, 1, 256), (8, 2, 178), (5, 8, 44)):
            for length in (16383, 16384, 16385):
                rows = self.rows_of_length(g, width, count, length)
                right = right_file(g, [1] * width, rows)
                self.assertEqual(len(right), length)
                self.assertLessEqual(len(handed_rows(rows)), 15000)
                expected = [-6] if length > 16384 else [length, length] + right
                self.assertEqual(file(g, [1] * width, handed_rows(rows)), expected)

    def test_far_too_long(self):
        self.assertEqual(file(1, [0] * 8, [0] * 2048), [-6])
        self.assertEqual(file(1, [1] * 8, [1, 0] * 2048), [-6])
        self.assertEqual(file(1, [0] * 8, [1, LEAST] * 2048), [-6])
        self.assertEqual(file(1, [1], ([1, 40] + [9] * 40) * 256), [-6])

    def test_no_table_is_no_file_either(self):
        self.assertEqual(file(1, [0] * 8, [0] * 2049), [-1])
        self.assertEqual(file(1, [0] * 8, [0] * 2047), [-1])
        self.assertEqual(file(1, [0] * 8, [0] * 2047 + [2]), [-1])
        self.assertEqual(file(1, [1], ([1, 40] + [9] * 40) * 257), [-1])


class Longest(unittest.TestCase):
    def test_longest_rows(self):
        rows = [[cell] * 8 for cell in (bytes((i * 91 + j * j * 7 + i * j) % 256 for j in range(40)) for i in range(44))]
        told = handed_rows(rows)
        self.assertEqual(len(told), 14784)
        expected = right_file(64, [1] * 8, rows)
        self.assertEqual(len(expected), 15798)
        self.assertEqual(file(64, [1] * 8, told), [len(expected)] * 2 + expected)
        self.assertEqual(file(64, [1] * 8, told + [0] * 216), right_answer(rows + [[None] * 8] * 27))
        self.assertEqual(file(1, [1] * 8, told + [0] * 216), [-6])
        self.assertEqual(file(64, [1] * 8, told + [7] * 216), [-1])

    def test_longest_lists_that_are_no_table(self):
        told = ([1, 40] + [9] * 40) * 357
        for rows in ([0] * 15000, [1] * 15000, [TOP] * 15000, [-TOP] * 15000, told[:15000], [1, 0] * 7500):
            for kinds in ([0], [1], [0, 1], [TOP] * 100, [0] * 100, []):
                for g in (0, 1, 64, TOP):
                    self.assertEqual(file(g, kinds, rows), [-1])


def right_answer(rows):
    expected = right_file(64, [1] * 8, rows)
    return [len(expected)] * 2 + expected


class FileByItself(unittest.TestCase):
    def test_handed_in_is_as_it_was(self):
        cases = [(g, kinds, handed_rows(rows)) for g, kinds, rows in sample_tables()]
        cases += [(0, [0], [0]), (1, [2], [0]), (1, [1], [1, 41]), (1, [0, 0], [0]), (1, [0] * 8, [0] * 2048)]
        for g, kinds, rows in cases:
            copies = list(kinds), list(rows)
            first = file(g, kinds, rows)
            self.assertEqual((kinds, rows), copies)
            self.assertEqual({x.__class__ for x in first}, {int})
            first_copy = list(first)
            first.append(99)
            self.assertEqual(file(g, kinds, rows), first_copy)
            self.assertEqual((kinds, rows), copies)
