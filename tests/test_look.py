import unittest

from helpers import (GREATEST, LEAST, TOP, VALUES_IN_WAY, Draw, drawn_cells, handed, page_of, plain, resealed, right_page,
                     s, sample_cells, with_nulls)
from pagefiles.pages import look, page


class Look(unittest.TestCase):
    def test_each_way(self):
        for kind, e, values in VALUES_IN_WAY:
            n = len(values)
            self.assertEqual(look(kind, page(kind, handed(values))[2:]), [0, 4, e, 0, n, 0])
            cells = with_nulls(values)
            self.assertEqual(look(kind, right_page(kind, cells)), [0, 4, e, 2, len(cells), 3])

    def test_without_values(self):
        for kind in (0, 1):
            self.assertEqual(look(kind, right_page(kind, [])), [0, 4, 0, 0, 0, 0])
            for n in (1, 2, 8, 63, 64):
                self.assertEqual(look(kind, right_page(kind, [None] * n)), [0, 4, 0, 1, n, n])

    def test_some_null(self):
        self.assertEqual(look(0, right_page(0, [LEAST, None])), [0, 4, 0, 2, 2, 1])
        self.assertEqual(look(1, right_page(1, [None] * 63 + [b""])), [0, 4, 0, 2, 64, 63])
        self.assertEqual(look(0, right_page(0, [GREATEST] * 63 + [None])), [0, 4, 1, 2, 64, 1])

    def test_drawn(self):
        draw = Draw(6)
        for turn in range(500):
            kind = turn % 2
            cells = drawn_cells(draw, kind)
            right = right_page(kind, cells)
            m = cells.count(None)
            state = 0 if m == 0 else 1 if m == len(cells) else 2
            self.assertEqual(look(kind, right), [0, 4, right[0], state, len(cells), m])

    def test_no_right_page(self):
        for kind, cells in sample_cells():
            right = right_page(kind, cells)
            for wrong in ([], [0], right[:-1], right[1:], right[:16], right + [0], right + right,
                          resealed(right + [0]), right + [0] * (20000 - len(right))):
                self.assertEqual(look(kind, wrong), [-2])
            for at in range(0, len(right), 7):
                wrong = list(right)
                wrong[at] ^= 1
                self.assertEqual(look(kind, wrong), [-2])
        self.assertEqual(look(0, page_of(1, 0, 1, 0, s(5))), [-2])
        self.assertEqual(look(0, page_of(0, 0, 2, 0, plain(0, [5, 5]))), [-2])
        self.assertEqual(look(0, page_of(0, 1, 65, 65, b"")), [-2])

    def test_right_for_the_other_kind_only(self):
        for kind, _, values in VALUES_IN_WAY:
            for cells in (values, with_nulls(values)):
                right = right_page(kind, cells)
                self.assertEqual(look(kind, right)[0], 0)
                self.assertEqual(look(1 - kind, right), [-2])

    def test_kind_comes_first(self):
        for kind in (2, 3, 256, TOP):
            for the_bytes in ([], [1], right_page(0, [5]), right_page(1, [b"a"]), [0] * 20000):
                self.assertEqual(look(kind, the_bytes), [-1])

    def test_handed_in_is_as_it_was(self):
        for kind, cells in sample_cells():
            for the_bytes in (right_page(kind, cells), right_page(kind, cells)[:-1]):
                copy = list(the_bytes)
                first = look(kind, the_bytes)
                self.assertEqual(the_bytes, copy)
                self.assertEqual({x.__class__ for x in first}, {int})
                first_copy = list(first)
                first.append(99)
                self.assertEqual(look(kind, the_bytes), first_copy)
