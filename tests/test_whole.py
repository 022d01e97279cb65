"""What holds over the whole program: the interface, H1 to H5, and that each call is by itself."""

import inspect
import unittest

from helpers import TOP, Draw, drawn_cells, drawn_table, handed, handed_rows, page_of, right_file, rows_for, s, sample_tables
from pagefiles import pages

INTERFACE = {
    "page": ["k", "cells"],
    "judge": ["k", "the_bytes"],
    "look": ["k", "the_bytes"],
    "read": ["k", "start", "n", "the_bytes"],
    "sizes": ["k", "cells"],
    "file": ["g", "kinds", "rows"],
    "open_of": ["the_bytes"],
    "rows": ["start", "n", "the_bytes"],
    "entry": ["i", "j", "the_bytes"],
    "check": ["c", "the_bytes"],
    "pack": ["q", "numbers"],
    "unpack": ["q", "k", "the_bytes"],
}


class Interface(unittest.TestCase):
    def test_names_and_arguments(self):
        for name, arguments in INTERFACE.items():
            call = getattr(pages, name)
            self.assertEqual(call.__module__, "pagefiles.pages")
            parameters = inspect.signature(call).parameters
            self.assertEqual(list(parameters), arguments)
            self.assertEqual({p.default for p in parameters.values()}, {inspect.Parameter.empty})


def mixed_tables():
    """Tables of both kinds, with and without nulls, of one group and of several; and some that are drawn."""
    draw = Draw(23)
    return sample_tables()[::5] + [drawn_table(draw) for _ in range(40)]


class Whole(unittest.TestCase):
    def test_written_opened_read_back_and_found(self):
        for g, kinds, table_rows in mixed_tables():
            told = handed_rows(table_rows)
            answer = pages.file(g, kinds, told)
            data = answer[2:]
            groups, n = -(-len(table_rows) // g), len(table_rows)
            self.assertEqual(answer[:2], [len(data)] * 2)
            self.assertEqual(pages.open_of(data), [groups, 3, len(kinds), n, g, len(kinds)] + kinds)
            self.assertEqual(pages.rows(0, n, data), [n, len(told)] + told)
            for i in sorted({0, groups // 2, groups - 1} & set(range(groups))):
                for j in sorted({0, len(kinds) - 1}):
                    self.check_found(data, kinds[j], [row[j] for row in table_rows[g * i:g * i + g]], i, j)

    def check_found(self, data, kind, cells, i, j):
        answer = pages.entry(i, j, data)
        self.assertEqual(answer[:2], [0, 3])
        place, size, nulls = answer[2:]
        found = data[place:place + size]
        self.assertEqual(found, pages.page(kind, handed(cells))[2:])
        self.assertEqual(pages.judge(kind, found), [1])
        self.assertEqual(pages.look(kind, found)[4:], [len(cells), nulls])
        self.assertEqual(nulls, cells.count(None))
        told = handed(cells)
        self.assertEqual(pages.read(kind, 0, len(cells), found), [len(cells), len(told)] + told)

    def test_one_form(self):
        """Of the rows that are read the same file is written; other rows, kinds or g make another."""
        seen = {}
        for g, kinds, table_rows in mixed_tables():
            data = pages.file(g, kinds, handed_rows(table_rows))[2:]
            read_back = pages.rows(0, len(table_rows), data)[2:]
            self.assertEqual(pages.file(g, kinds, read_back)[2:], data)
            table = (g, tuple(kinds), tuple(read_back))
            self.assertEqual(seen.setdefault(tuple(data), table), table)

    def test_nothing_else_is_taken(self):
        for g, kinds, table_rows in ((2, [0], [[7], [None], [7]]), (3, [1, 0], rows_for([1, 0], 4, 3))):
            right = right_file(g, kinds, table_rows)
            for at in range(len(right)):
                for other in (right[at] ^ 1, right[at] ^ 128, 255 - right[at]):
                    answer = pages.open_of(right[:at] + [other] + right[at + 1:])
                    self.assertEqual(answer[:2], [-2, 1])
                    self.assertLessEqual(answer[2], at + 8)
                self.assertEqual(pages.open_of(right[:at])[:2], [-2, 1])
                self.assertEqual(pages.open_of(right[:at] + right[at + 1:])[:2], [-2, 1])

    def test_fewest(self):
        draw = Draw(29)
        for turn in range(400):
            kind = turn % 2
            cells = drawn_cells(draw, kind)
            values = [cell for cell in cells if cell is not None]
            if values:
                answer = pages.sizes(kind, handed(cells))
                counts = [count for count in answer[2:] if count >= 0]
                written = pages.page(kind, handed(cells))[2:]
                marks = (len(cells) + 7) // 8 if len(values) < len(cells) else 0
                self.assertEqual(len(written), 20 + marks + min(counts))
                self.assertEqual(written[0], answer[2:].index(min(counts)))
                self.assertEqual(answer[0], written[0])

    def test_checks_and_packed_numbers_are_those_of_the_calls(self):
        cells = [3, None, 250, 17, 99, 0, 255, 254, None, 1, 77, 128]
        written = pages.page(0, handed(cells))[2:]
        self.assertEqual(written[0], 4)
        self.assertEqual(pages.unpack(1, 12, written[16:18])[2:], [int(cell is not None) for cell in cells])
        self.assertEqual(pages.unpack(8, 10, written[27:-4])[2:], [cell for cell in cells if cell is not None])
        self.assertEqual(pages.check(0, written[:-4]), [int.from_bytes(bytes(written[-4:]), "little")])


FILE = right_file(2, [0, 1], rows_for([0, 1], 3))
PAGE = page_of(0, 0, 1, 0, s(5))
TOO_LONG = [0] * 16385

REFUSALS = [
    (pages.page, (2, []), [-1]),
    (pages.page, (TOP, [1]), [-1]),
    (pages.page, (0, [0] * 65), [-1]),
    (pages.page, (0, [1, 2 ** 63]), [-1]),
    (pages.page, (1, [1, 41] + [0] * 41), [-1]),
    (pages.judge, (2, PAGE), [-1]),
    (pages.look, (2, []), [-1]),
    (pages.look, (0, []), [-2]),
    (pages.look, (1, PAGE), [-2]),
    (pages.read, (2, TOP, TOP, []), [-1]),
    (pages.read, (0, TOP, TOP, []), [-2]),
    (pages.read, (0, 1, 1, PAGE), [-4]),
    (pages.sizes, (2, []), [-1]),
    (pages.sizes, (1, [2]), [-1]),
    (pages.file, (0, [0], []), [-1]),
    (pages.file, (1, [], []), [-1]),
    (pages.file, (1, [2], []), [-1]),
    (pages.file, (1, [0, 0], [0]), [-1]),
    (pages.file, (1, [0] * 8, [0] * 2048), [-6]),
    (pages.open_of, (TOO_LONG,), [-6]),
    (pages.open_of, ([],), [-2, 1, 0]),
    (pages.open_of, (FILE + [0],), [-2, 1, len(FILE)]),
    (pages.rows, (TOP, TOP, TOO_LONG), [-6]),
    (pages.rows, (TOP, TOP, FILE[:-1]), [-2, 1, len(FILE) - 10]),
    (pages.rows, (3, 1, FILE), [-4]),
    (pages.entry, (TOP, TOP, TOO_LONG), [-6]),
    (pages.entry, (TOP, TOP, FILE[:-1]), [-2, 1, len(FILE) - 10]),
    (pages.entry, (2, 0, FILE), [-4]),
    (pages.entry, (0, 2, FILE), [-4]),
    (pages.check, (2 ** 32, []), [-1]),
    (pages.pack, (65, []), [-1]),
    (pages.pack, (64, [0] * 257), [-1]),
    (pages.pack, (3, [8]), [-1]),
    (pages.unpack, (65, 1, []), [-1]),
    (pages.unpack, (1, 257, []), [-1]),
    (pages.unpack, (1, 9, [0]), [-2]),
]

ANSWERED = [
    (pages.page, (0, [1, 5]), [28, 28] + PAGE),
    (pages.judge, (0, PAGE), [1]),
    (pages.judge, (1, PAGE), [0]),
    (pages.look, (0, PAGE), [0, 4, 0, 0, 1, 0]),
    (pages.read, (0, 0, 1, PAGE), [1, 2, 1, 5]),
    (pages.sizes, (0, [0]), [0, 0]),
    (pages.file, (2, [0, 1], handed_rows(rows_for([0, 1], 3))), [len(FILE)] * 2 + FILE),
    (pages.open_of, (FILE,), [2, 3, 2, 3, 2, 2, 0, 1]),
    (pages.rows, (3, 0, FILE), [0, 0]),
    (pages.check, (7, []), [7]),
    (pages.pack, (3, [1, 2, 3]), [2, 2, 209, 0]),
    (pages.unpack, (3, 3, [209, 0]), [3, 3, 1, 2, 3]),
]


class EachByItself(unittest.TestCase):
    def test_refused_just_as_told(self):
        for call, handed_in, expected in REFUSALS:
            self.assertEqual(call(*handed_in), expected, call.__name__)

    def test_every_call_is_here(self):
        self.assertEqual({call.__name__ for call, _, _ in REFUSALS}, set(INTERFACE))

    def test_in_whatever_order(self):
        """Whatever was called ahead, a call answers as if for the first time."""
        draw = Draw(31)
        for _ in range(600):
            call, handed_in, expected = draw.pick(REFUSALS + ANSWERED)
            answer = call(*handed_in)
            self.assertEqual(answer, expected, call.__name__)
            answer.extend([1, 2, 3])

    def test_handed_in_is_as_it_was(self):
        for call, handed_in, _ in REFUSALS + ANSWERED:
            copies = [list(x) if isinstance(x, list) else x for x in handed_in]
            call(*handed_in)
            self.assertEqual(list(handed_in), copies, call.__name__)
