import itertools
import unittest

from helpers import (GREATEST, LEAST, TOP, VALUES_IN_WAY, Draw, crc32c, drawn_cells, handed, lengths, right_page,
                     sample_cells, u, way_of, ways, with_nulls)
from pagefiles.pages import page


class PageBytes(unittest.TestCase):
    def check_page(self, kind, cells):
        expected = right_page(kind, cells)
        self.assertEqual(page(kind, handed(cells)), [len(expected)] * 2 + expected)

    def test_written_by_hand(self):
        self.assertEqual(page(0, []), [20, 20] + [0] * 16 + [234, 154, 112, 66])
        self.assertEqual(page(1, []), page(0, []))
        head = [0, 1, 0, 0, 3, 0, 0, 0, 3, 0, 0, 0, 0, 0, 0, 0]
        self.assertEqual(page(1, [0, 0, 0]), [20, 20] + head + list(u(crc32c(head))))
        body = [0b101, 0, 0, 0, 0, 2, 0, 0, 0, 7, 8]
        head = [0, 2, 0, 0, 3, 0, 0, 0, 1, 0, 0, 0, 11, 0, 0, 0]
        self.assertEqual(page(1, [1, 0, 0, 1, 2, 7, 8]), [31, 31] + head + body + list(u(crc32c(head + body))))
        body = [254] + [255] * 7 + [5] + [0b00000000, 0b11001101, 0b1111]
        head = [4, 0, 0, 0, 4, 0, 0, 0, 0, 0, 0, 0, 12, 0, 0, 0]
        numbers = [1, -2, 1, -2 + 8, 1, -2 + 19, 1, -2 + 31]
        self.assertEqual(page(0, numbers), [32, 32] + head + body + list(u(crc32c(head + body))))

    def test_each_way_is_taken(self):
        for kind, e, values in VALUES_IN_WAY:
            with self.subTest(kind=kind, e=e):
                self.assertEqual(way_of(kind, values), e)
                self.check_page(kind, values)
                self.assertEqual(page(kind, handed(values))[2], e)
                self.assertEqual(page(kind, handed(with_nulls(values)))[2:4], [e, 2])

    def test_of_as_few_the_lowest(self):
        ties = [
            (0, [5], 0, (0, 1)),
            (0, [0, 2 ** 27], 0, (0, 4)),
            (0, [0, 2 ** 40, 2 ** 41 + 2 ** 22], 0, (0, 5)),
            (0, [LEAST] * 32 + [GREATEST] * 32, 2, (2, 3)),
            (0, [0, 4000] * 4, 3, (3, 4)),
            (0, [20 * i for i in range(9)], 4, (4, 5)),
            (1, [b""], 0, (0, 1)),
            (1, [b"a", b"a", b"bcd"], 0, (0, 3)),
            (1, [b"sharedsoa", b"sharedsob"], 0, (0, 6)),
            (1, [b""] * 32 + [b"x"] * 32, 2, (2, 3)),
            (1, [b"elevenbytesx", b"elevenbytesy", b"elevenbytesy"], 3, (3, 6)),
        ]
        for kind, values, e, same in ties:
            with self.subTest(values=values):
                found = lengths(kind, values)
                fewest = min(x for x in found if x is not None)
                self.assertEqual({found[i] for i in same}, {fewest})
                self.assertEqual(page(kind, handed(values))[2], e)
                self.check_page(kind, values)

    def test_samples_and_nulls(self):
        for kind, cells in sample_cells():
            with self.subTest(kind=kind, cells=cells):
                self.check_page(kind, cells)

    def test_numbers_at_the_edges(self):
        edges = [LEAST, LEAST + 1, -1, 0, 1, GREATEST - 1, GREATEST]
        for length in (1, 2, 3):
            for values in itertools.product(edges, repeat=length):
                self.check_page(0, list(values))
        self.check_page(0, [LEAST, GREATEST] * 32)
        self.check_page(0, [LEAST + i % 2 for i in range(64)])
        self.check_page(0, [GREATEST, LEAST, LEAST, GREATEST, 0])

    def test_widest_differences(self):
        values = [LEAST, GREATEST, LEAST]
        self.assertEqual(ways(0, values)[5][17], 65)
        self.check_page(0, values)

    def test_rows_of_bytes_at_the_edges(self):
        edges = [b"", b"\0", b"\0\0", b"\xff", b"\0" * 40, b"\xff" * 40, b"\0" * 39 + b"\x01"]
        for length in (1, 2, 3):
            for values in itertools.product(edges, repeat=length):
                self.check_page(1, list(values))
        self.check_page(1, [bytes((i * 91 + j * j * 7 + i * j) % 256 for j in range(40)) for i in range(64)])

    def test_all_small_pages(self):
        for kind, choices in ((0, (None, 0, 1, 300)), (1, (None, b"", b"a", b"ab"))):
            for n in range(6):
                for cells in itertools.product(choices, repeat=n):
                    self.check_page(kind, list(cells))

    def test_drawn(self):
        draw = Draw(1)
        taken = {}
        for turn in range(3000):
            kind = turn % 2
            cells = drawn_cells(draw, kind)
            self.check_page(kind, cells)
            taken[kind, page(kind, handed(cells))[2]] = True
        self.assertEqual(sorted(taken), [(kind, e) for kind, e, _ in VALUES_IN_WAY])

    def test_fewest(self):
        draw = Draw(2)
        for turn in range(500):
            kind = turn % 2
            values = [cell for cell in drawn_cells(draw, kind) if cell is not None]
            if values:
                fewest = min(x for x in lengths(kind, values) if x is not None)
                self.assertEqual(page(kind, handed(values))[0], 20 + fewest)


class PageRefusals(unittest.TestCase):
    def test_kind(self):
        for kind in (2, 3, 255, 256, TOP):
            for cells in ([], [0], [1, 0], [1, 5], [2]):
                self.assertEqual(page(kind, cells), [-1])

    def test_more_than_64_cells(self):
        for kind in (0, 1):
            for cell in ([0], [1, 0]):
                self.assertEqual(page(kind, cell * 64)[6], 64)
                self.assertEqual(page(kind, cell * 65), [-1])
        self.assertEqual(page(0, [0] * 15000), [-1])
        self.assertEqual(page(0, [1, 1] * 7500), [-1])
        self.assertEqual(page(1, ([1, 40] + [9] * 40) * 357), [-1])

    def test_number_out_of_range(self):
        for x in (LEAST - 1, GREATEST + 1, TOP, -TOP):
            self.assertEqual(page(0, [1, x]), [-1])
            self.assertEqual(page(0, [0, 1, 5, 1, x, 0]), [-1])

    def test_neither_0_nor_1(self):
        for kind in (0, 1):
            for first in (-1, 2, 256, TOP, -TOP):
                self.assertEqual(page(kind, [first]), [-1])
                self.assertEqual(page(kind, [first, 0]), [-1])
                self.assertEqual(page(kind, [0, 1, 0, first, 0]), [-1])

    def test_end_too_early(self):
        self.assertEqual(page(0, [1]), [-1])
        self.assertEqual(page(0, [1, 5, 1]), [-1])
        self.assertEqual(page(1, [1]), [-1])
        self.assertEqual(page(1, [0, 1]), [-1])
        whole = [1, 3, 7, 8, 9, 1, 40] + [1] * 40
        for end in range(len(whole)):
            if end not in (0, 5):
                self.assertEqual(page(1, whole[:end]), [-1])

    def test_how_many_bytes(self):
        for count in (-1, -2, 41, 42, 255, TOP, -TOP):
            self.assertEqual(page(1, [1, count] + [0] * 41), [-1])
            self.assertEqual(page(1, [1, count]), [-1])
            self.assertEqual(page(1, [1, 0, 1, count] + [0] * 300), [-1])
        self.assertEqual(page(1, [1, 40] + [0] * 40)[0], 64)

    def test_byte_out_of_range(self):
        for byte in (-1, 256, TOP, -TOP):
            for place in range(3):
                row = [1, 3, 0, 255, 0]
                row[2 + place] = byte
                self.assertEqual(page(1, row), [-1])

    def test_wrong_far_behind(self):
        self.assertEqual(page(0, [1, 5] * 63 + [2]), [-1])
        self.assertEqual(page(0, [1, 5] * 64 + [7]), [-1])


class PageByItself(unittest.TestCase):
    def test_handed_in_is_as_it_was(self):
        for kind, cells in sample_cells():
            told = handed(cells)
            first = page(kind, told)
            self.assertEqual(told, handed(cells))
            first_copy = list(first)
            first.append(99)
            self.assertEqual(page(kind, told), first_copy)
        for told in ([1], [2], [1, 41], [0] * 65):
            copy = list(told)
            page(1, told)
            self.assertEqual(told, copy)

    def test_whole_numbers_only(self):
        for kind, cells in sample_cells():
            self.assertEqual({x.__class__ for x in page(kind, handed(cells))}, {int})
        self.assertEqual(page(2, [])[0].__class__, int)
