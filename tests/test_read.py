import itertools
import unittest

from helpers import (TOP, VALUES_IN_WAY, Draw, drawn_cells, handed, page_of, plain, resealed, right_page, s, sample_cells,
                     with_nulls)
from pagefiles.pages import page, read


def told(cells):
    numbers = handed(cells)
    return [len(cells), len(numbers)] + numbers


class Back(unittest.TestCase):
    def test_written_by_hand(self):
        numbers = page(0, [1, -5, 0, 1, 7])[2:]
        self.assertEqual(read(0, 0, 3, numbers), [3, 5, 1, -5, 0, 1, 7])
        self.assertEqual(read(0, 1, 1, numbers), [1, 1, 0])
        self.assertEqual(read(0, 2, 1, numbers), [1, 2, 1, 7])
        rows = page(1, [1, 2, 8, 9, 0, 1, 0])[2:]
        self.assertEqual(read(1, 0, 3, rows), [3, 7, 1, 2, 8, 9, 0, 1, 0])
        self.assertEqual(read(1, 1, 2, rows), [2, 3, 0, 1, 0])

    def test_whole(self):
        for kind, cells in sample_cells():
            written = page(kind, handed(cells))[2:]
            self.assertEqual(read(kind, 0, len(cells), written), told(cells))

    def test_every_part(self):
        for kind, _, values in VALUES_IN_WAY:
            for cells in (values[:9], with_nulls(values[:9])):
                right = right_page(kind, cells)
                for start in range(len(cells) + 1):
                    for n in range(len(cells) - start + 1):
                        self.assertEqual(read(kind, start, n, right), told(cells[start:start + n]))

    def test_each_cell_in_each_way(self):
        for kind, e, values in VALUES_IN_WAY:
            for cells in (values, with_nulls(values)):
                right = right_page(kind, cells)
                self.assertEqual(right[0], e)
                for start, cell in enumerate(cells):
                    self.assertEqual(read(kind, start, 1, right), told([cell]))

    def test_all_small_pages(self):
        for kind, choices in ((0, (None, -1, 0, 2 ** 63 - 1)), (1, (None, b"", b"a", b"\xff" * 40))):
            for n in range(5):
                for cells in itertools.product(choices, repeat=n):
                    written = page(kind, handed(cells))[2:]
                    self.assertEqual(read(kind, 0, n, written), told(cells))

    def test_drawn(self):
        draw = Draw(7)
        for turn in range(1500):
            kind = turn % 2
            cells = drawn_cells(draw, kind)
            start = draw.below(len(cells) + 1)
            n = draw.below(len(cells) - start + 1)
            written = page(kind, handed(cells))[2:]
            self.assertEqual(read(kind, 0, len(cells), written), told(cells))
            self.assertEqual(read(kind, start, n, written), told(cells[start:start + n]))

    def test_none_of_them(self):
        for kind, cells in sample_cells():
            right = right_page(kind, cells)
            for start in (0, len(cells) // 2, len(cells)):
                self.assertEqual(read(kind, start, 0, right), [0, 0])


class Refused(unittest.TestCase):
    def test_too_few(self):
        for kind, cells in sample_cells():
            right = right_page(kind, cells)
            n = len(cells)
            for start, count in ((0, n + 1), (n, 1), (n + 1, 0), (1, n), (n // 2, n - n // 2 + 1), (0, TOP), (TOP, 0),
                                 (TOP, 1), (1, TOP), (TOP, TOP), (2 ** 63, 2 ** 63), (n, TOP - n + 1), (2 ** 32, 0)):
                if start + count > n:
                    self.assertEqual(read(kind, start, count, right), [-4])
            self.assertEqual(read(kind, n, 1, right), [-4])
            self.assertEqual(read(kind, n + 1, 0, right), [-4])

    def test_no_right_page_comes_ahead_of_too_few(self):
        for kind, cells in sample_cells():
            right = right_page(kind, cells)
            changed = list(right)
            changed[-1] ^= 1
            for wrong in ([], right[:-1], right + [0], changed, resealed(right + [0])):
                for start, n in ((0, 0), (0, len(cells)), (0, len(cells) + 1), (TOP, TOP)):
                    self.assertEqual(read(kind, start, n, wrong), [-2])
        self.assertEqual(read(0, 0, 1, page_of(1, 0, 1, 0, s(5))), [-2])
        self.assertEqual(read(0, 0, 2, page_of(0, 0, 2, 0, plain(0, [5, 5]))), [-2])
        self.assertEqual(read(0, 0, 1, [0] * 20000), [-2])

    def test_right_for_the_other_kind_only(self):
        for kind, _, values in VALUES_IN_WAY:
            self.assertEqual(read(1 - kind, 0, 0, right_page(kind, values)), [-2])
            self.assertEqual(read(1 - kind, 0, 65, right_page(kind, values)), [-2])

    def test_right_for_both_kinds(self):
        both = right_page(1, [b"abcd"])
        self.assertEqual(read(1, 0, 1, both), [1, 6, 1, 4, 97, 98, 99, 100])
        self.assertEqual(read(0, 0, 1, both), [1, 2, 1, 4 + int.from_bytes(b"abcd", "little") * 2 ** 32])

    def test_kind_comes_first(self):
        for kind in (2, 3, 256, TOP):
            for the_bytes in ([], [1], right_page(0, [5]), right_page(1, [b"a"])):
                for start, n in ((0, 0), (0, 1), (0, 65), (TOP, TOP)):
                    self.assertEqual(read(kind, start, n, the_bytes), [-1])


class ByItself(unittest.TestCase):
    def test_handed_in_is_as_it_was(self):
        for kind, cells in sample_cells():
            for the_bytes in (right_page(kind, cells), right_page(kind, cells)[:-1]):
                copy = list(the_bytes)
                for n in (0, len(cells), TOP):
                    first = read(kind, 0, n, the_bytes)
                    self.assertEqual(the_bytes, copy)
                    self.assertEqual({x.__class__ for x in first}, {int})
                    first_copy = list(first)
                    first.append(99)
                    self.assertEqual(read(kind, 0, n, the_bytes), first_copy)
