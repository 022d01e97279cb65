import itertools
import unittest

from helpers import (GREATEST, LEAST, TOP, VALUES_IN_WAY, Draw, drawn_cells, handed, lengths, sample_cells, way_of,
                     with_nulls)
from pagefiles.pages import page, sizes


def expected(kind, cells):
    values = [cell for cell in cells if cell is not None]
    if not values:
        return [0, 0]
    return [way_of(kind, values), 7] + [-1 if x is None else x for x in lengths(kind, values)]


class Sizes(unittest.TestCase):
    def check_sizes(self, kind, cells):
        self.assertEqual(sizes(kind, handed(cells)), expected(kind, cells))

    def test_written_by_hand(self):
        self.assertEqual(sizes(0, [1, 5]), [0, 7, 8, 8, 16, 12, 9, -1, -1])
        self.assertEqual(sizes(0, [1, 5, 1, 5]), [1, 7, 16, 8, 16, 12, 9, 18, -1])
        self.assertEqual(sizes(0, [1, 5, 0, 1, 7]), [4, 7, 16, -1, 28, 21, 10, 18, -1])
        self.assertEqual(sizes(1, [1, 0]), [0, 7, 4, 4, 12, 8, -1, -1, 8])
        self.assertEqual(sizes(1, [1, 2, 8, 9, 1, 3, 8, 9, 7]), [0, 7, 13, -1, 25, 18, -1, -1, 19])

    def test_without_values(self):
        for kind in (0, 1):
            for n in (0, 1, 2, 8, 63, 64):
                self.assertEqual(sizes(kind, [0] * n), [0, 0])

    def test_ways_that_do_not_go(self):
        self.assertEqual([x == -1 for x in sizes(0, [1, 5])[2:]], [False] * 5 + [True, True])
        self.assertEqual([x == -1 for x in sizes(0, [1, 5, 1, 6])[2:]], [False, True] + [False] * 4 + [True])
        self.assertEqual([x == -1 for x in sizes(0, [1, 5, 0, 1, 5])[2:]], [False] * 6 + [True])
        self.assertEqual([x == -1 for x in sizes(1, [1, 0, 1, 0])[2:]], [False] * 4 + [True, True, False])
        self.assertEqual([x == -1 for x in sizes(1, [1, 0, 1, 1, 0])[2:]], [False, True, False, False, True, True, False])

    def test_each_way_is_taken(self):
        for kind, e, values in VALUES_IN_WAY:
            self.assertEqual(sizes(kind, handed(values))[0], e)
            self.assertEqual(sizes(kind, handed(with_nulls(values)))[0], e)

    def test_of_as_few_the_lowest(self):
        for kind, values, e, other in ((0, [5], 0, 1), (0, [0, 2 ** 27], 0, 4), (0, [LEAST] * 32 + [GREATEST] * 32, 2, 3),
                                       (0, [0, 4000] * 4, 3, 4), (0, [20 * i for i in range(9)], 4, 5), (1, [b""], 0, 1),
                                       (1, [b"sharedsoa", b"sharedsob"], 0, 6),
                                       (1, [b"elevenbytesx", b"elevenbytesy", b"elevenbytesy"], 3, 6)):
            found = sizes(kind, handed(values))
            self.assertEqual(found[0], e)
            self.assertEqual(found[2 + e], found[2 + other])
            self.assertEqual(found[2 + e], min(x for x in found[2:] if x != -1))

    def test_samples_and_nulls(self):
        for kind, cells in sample_cells():
            self.check_sizes(kind, cells)

    def test_nulls_do_not_count(self):
        for kind, _, values in VALUES_IN_WAY:
            kept = values[:61]
            self.assertEqual(sizes(kind, handed(with_nulls(kept))), sizes(kind, handed(kept)))

    def test_numbers_at_the_edges(self):
        for length in (1, 2, 3):
            for values in itertools.product([LEAST, LEAST + 1, -1, 0, 1, GREATEST - 1, GREATEST], repeat=length):
                self.check_sizes(0, values)
        self.check_sizes(0, [LEAST, GREATEST] * 32)
        self.assertEqual(sizes(0, [1, LEAST, 1, GREATEST, 1, LEAST])[7], 8 + 9 + 1 + 17)
        self.assertEqual(sizes(0, [1, LEAST, 1, GREATEST])[6], 8 + 1 + 16)

    def test_rows_of_bytes_at_the_edges(self):
        for length in (1, 2, 3):
            for values in itertools.product([b"", b"\0", b"\xff", b"\0" * 40, b"\0" * 39 + b"\1"], repeat=length):
                self.check_sizes(1, values)

    def test_drawn_and_as_page_writes(self):
        draw = Draw(8)
        for turn in range(1000):
            kind = turn % 2
            cells = drawn_cells(draw, kind)
            self.check_sizes(kind, cells)
            found, written = sizes(kind, handed(cells)), page(kind, handed(cells))
            self.assertEqual(found[0], written[2])
            n, m = len(cells), cells.count(None)
            if m < n:
                self.assertEqual(found[2 + found[0]], written[0] - 20 - ((n + 7) // 8 if m else 0))


class SizesRefusals(unittest.TestCase):
    def test_kind(self):
        for kind in (2, 3, 255, 256, TOP):
            for cells in ([], [0], [1, 0], [1, 5], [2], [0] * 15000):
                self.assertEqual(sizes(kind, cells), [-1])

    def test_the_same_as_of_page(self):
        wrong = [(kind, cell * 65) for kind in (0, 1) for cell in ([0], [1, 0])]
        wrong += [(0, [1, x]) for x in (LEAST - 1, GREATEST + 1, TOP, -TOP)]
        wrong += [(kind, [0, first, 0]) for kind in (0, 1) for first in (-1, 2, 256, TOP, -TOP)]
        wrong += [(0, [1]), (0, [1, 5, 1]), (1, [1]), (1, [0, 1]), (1, [1, 1]), (1, [1, 3, 7, 8]), (1, [1, 40] + [1] * 39)]
        wrong += [(1, [1, count] + [0] * 60) for count in (-1, 41, 255, TOP, -TOP)]
        wrong += [(1, [1, 3, 0, byte, 0]) for byte in (-1, 256, TOP, -TOP)]
        wrong += [(0, [1, 5] * 63 + [2]), (0, [1, 5] * 64 + [7]), (0, [0] * 15000), (1, [1, 0] * 7500)]
        for kind, cells in wrong:
            self.assertEqual(page(kind, cells), [-1])
            self.assertEqual(sizes(kind, cells), [-1])
        self.assertEqual(sizes(0, [1, 5] * 64)[:2], [1, 7])


class SizesByItself(unittest.TestCase):
    def test_handed_in_is_as_it_was(self):
        cases = [(kind, handed(cells)) for kind, cells in sample_cells()] + [(1, [1]), (1, [1, 41]), (0, [0] * 65)]
        for kind, told in cases:
            copy = list(told)
            first = sizes(kind, told)
            self.assertEqual(told, copy)
            self.assertEqual({x.__class__ for x in first}, {int})
            first_copy = list(first)
            first.append(99)
            self.assertEqual(sizes(kind, told), first_copy)
