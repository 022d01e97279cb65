import itertools
import unittest

from helpers import (GREATEST, LEAST, TOP, VALUES_IN_WAY, Draw, differences, dictionary, drawn_cells, from_least,
                     handed, null_map, packed, page_of, plain, resealed, right_page, runs, s, sample_cells, shared, u,
                     way_of, ways, with_nulls)
from pagefiles.pages import judge, page


class Right(unittest.TestCase):
    def test_what_page_writes(self):
        for kind, cells in sample_cells():
            self.assertEqual(judge(kind, page(kind, handed(cells))[2:]), [1])
            self.assertEqual(judge(kind, right_page(kind, cells)), [1])

    def test_all_small_pages(self):
        for kind, choices in ((0, (None, LEAST, GREATEST, 300)), (1, (None, b"", b"a", b"ab"))):
            for n in range(5):
                for cells in itertools.product(choices, repeat=n):
                    self.assertEqual(judge(kind, right_page(kind, cells)), [1])

    def test_drawn(self):
        draw = Draw(3)
        for turn in range(1500):
            kind = turn % 2
            self.assertEqual(judge(kind, right_page(kind, drawn_cells(draw, kind))), [1])

    def test_longest_right_pages(self):
        rows = [bytes((i * 91 + j * j * 7 + i * j) % 256 for j in range(40)) for i in range(64)]
        longest = right_page(1, rows)
        self.assertEqual((len(longest), longest[0]), (20 + 64 * 44, 0))
        self.assertEqual(judge(1, longest), [1])
        draw = Draw(4)
        numbers = [draw.below(2 ** 64) - 2 ** 63 for _ in range(64)]
        self.assertEqual(judge(0, right_page(0, numbers)), [1])

    def test_the_other_kind(self):
        for kind, cells in sample_cells():
            both = cells.count(None) == len(cells)
            self.assertEqual(judge(1 - kind, right_page(kind, cells)), [int(both)])
        four_bytes = right_page(1, [b"abcd"])
        self.assertEqual(judge(1, four_bytes), [1])
        self.assertEqual(judge(0, four_bytes), [1])


class Damaged(unittest.TestCase):
    def pages(self):
        return [(kind, right_page(kind, cells)) for kind, cells in sample_cells()]

    def test_one_byte_changed(self):
        for kind, right in self.pages():
            others = range(1, 256) if len(right) < 60 else (1, 128, 255)
            for at in range(len(right)):
                for other in others:
                    wrong = list(right)
                    wrong[at] ^= other
                    self.assertEqual(judge(kind, wrong), [0])

    def test_one_byte_left_out(self):
        for kind, right in self.pages():
            for at in range(len(right)):
                self.assertEqual(judge(kind, right[:at] + right[at + 1:]), [0])

    def test_ends_too_early(self):
        for kind, right in self.pages():
            for end in range(len(right)):
                self.assertEqual(judge(kind, right[:end]), [0])

    def test_one_byte_more(self):
        for kind, right in self.pages():
            for more in (0, 1, 255):
                self.assertEqual(judge(kind, right + [more]), [0])
                self.assertEqual(judge(kind, [more] + right), [0])
                self.assertEqual(judge(kind, resealed(right + [more])), [0])
            self.assertEqual(judge(kind, right + right), [0])

    def test_changed_with_a_check_that_fits(self):
        """Such bytes are right only if they are the page of what they tell."""
        for kind, right in self.pages():
            for at in range(len(right) - 4):
                for other in (1, 2, 4, 128, 255):
                    wrong = list(right)
                    wrong[at] ^= other
                    wrong = resealed(wrong)
                    if judge(kind, wrong) == [1]:
                        self.assertTrue(self.told_right(kind, wrong), (right, wrong))

    def told_right(self, kind, the_bytes):
        """Reads the page strictly, with none of the program's own functions."""
        body, e = bytes(the_bytes[16:-4]), the_bytes[0]
        n = the_bytes[4]
        marks = [the_bytes[1] == 0] * n
        if the_bytes[1] == 2:
            marks = [body[i // 8] >> i % 8 & 1 == 1 for i in range(n)]
            body = body[(n + 7) // 8:]
        values = strict_values(kind, e, sum(marks), body)
        cells = [values.pop(0) if mark else None for mark in marks]
        return right_page(kind, cells) == the_bytes


def unpacked(q, k, body):
    together = int.from_bytes(body, "little")
    return [together >> q * i & 2 ** q - 1 for i in range(k)]


def take_alone(kind, body):
    if kind == 0:
        return int.from_bytes(body[:8], "little", signed=True), body[8:]
    end = 4 + int.from_bytes(body[:4], "little")
    return body[4:end], body[end:]


def take_plain(kind, k, body):
    if kind == 0:
        return [int.from_bytes(body[8 * i:8 * i + 8], "little", signed=True) for i in range(k)], body[8 * k:]
    counts = [int.from_bytes(body[4 * i:4 * i + 4], "little") for i in range(k)]
    body, values = body[4 * k:], []
    for count in counts:
        values.append(body[:count])
        body = body[count:]
    return values, body


def strict_values(kind, e, k, body):
    if k == 0:
        return []
    if e == 0:
        return take_plain(kind, k, body)[0]
    if e == 1:
        return [take_alone(kind, body)[0]] * k
    if e == 2:
        values, rest = [], body[4:]
        while rest:
            value, behind = take_alone(kind, rest[4:])
            values += [value] * int.from_bytes(rest[:4], "little")
            rest = behind
        return values
    if e == 3:
        d = int.from_bytes(body[:4], "little")
        different, rest = take_plain(kind, d, body[4:])
        return [different[i] for i in unpacked((d - 1).bit_length(), k, rest)]
    if e == 4:
        least = int.from_bytes(body[:8], "little", signed=True)
        return [least + x for x in unpacked(body[8], k, body[9:])]
    if e == 5:
        values = [int.from_bytes(body[:8], "little", signed=True)]
        least = int.from_bytes(body[8:17], "little", signed=True)
        for x in unpacked(body[17], k - 1, body[18:]):
            values.append(values[-1] + least + x)
        return values
    values, before = [], b""
    for _ in range(k):
        left, rest = take_alone(1, body[4:])
        before = before[:int.from_bytes(body[:4], "little")] + left
        values.append(before)
        body = rest
    return values


class NotJustThePage(unittest.TestCase):
    """Pages whose check is right."""

    def wrong(self, kind, the_bytes):
        self.assertEqual(judge(kind, the_bytes), [0])

    def test_another_way_than_the_one_taken(self):
        cases = [(kind, values) for kind, _, values in VALUES_IN_WAY]
        cases += [(0, [5]), (0, [0, 2 ** 27]), (0, [20 * i for i in range(9)]), (1, [b""]), (1, [b"sharedsoa", b"sharedsob"])]
        for kind, values in cases:
            for e, body in enumerate(ways(kind, values)):
                if body is not None:
                    expected = [int(e == way_of(kind, values))]
                    self.assertEqual(judge(kind, page_of(e, 0, len(values), 0, body)), expected)
                    cells = with_nulls(values)
                    if len(cells) == len(values) + 3:
                        whole = page_of(e, 2, len(cells), 3, null_map(cells) + body)
                        self.assertEqual(judge(kind, whole), expected)

    def test_ways_that_do_not_go(self):
        for e in (1, 2, 3, 4, 5, 6, 7, 8, 128, 255):
            for n, state in ((0, 0), (3, 1)):
                for kind in (0, 1):
                    self.wrong(kind, page_of(e, state, n, n * state, b""))
        for kind, e, values in VALUES_IN_WAY:
            for other in (7, 8, 255):
                self.wrong(kind, page_of(other, 0, len(values), 0, ways(kind, values)[e]))
        self.wrong(0, page_of(6, 0, 2, 0, shared([(0, b"abcdefgh"), (8, b"")])))
        self.wrong(1, page_of(4, 0, 3, 0, from_least(3, 4, [1, 2, 3])))
        self.wrong(1, page_of(5, 0, 3, 0, differences(3, 4, 0, [0, 0])))
        self.wrong(0, page_of(5, 0, 1, 0, differences(3, 4, 0, [])))
        self.wrong(0, page_of(1, 0, 2, 0, s(5) + s(6)))

    def test_bits_behind(self):
        cells = [None, 5, None, 6, None]
        marks, body = null_map(cells), ways(0, [5, 6])[way_of(0, [5, 6])]
        e = way_of(0, [5, 6])
        self.assertEqual(judge(0, page_of(e, 2, 5, 3, marks + body)), [1])
        for bit in (5, 6, 7):
            self.wrong(0, page_of(e, 2, 5, 3, bytes([marks[0] | 1 << bit]) + body))
        for kind, e, values, used in ((0, 4, [1, 0, 3], 6), (0, 3, [LEAST, GREATEST, LEAST, GREATEST], 4),
                                      (0, 5, [0, 10 ** 9, 2 * 10 ** 9 + 1, 3 * 10 ** 9], 6)):
            right = right_page(kind, values)
            self.assertEqual(right[0], e)
            for bit in range(used, 8):
                wrong = list(right)
                wrong[-5] |= 1 << bit
                self.wrong(kind, resealed(wrong))

    def test_byte_1(self):
        for n, right in ((0, 0), (1, 1), (8, 1)):
            for state in range(256):
                body = b"" if state != 2 else bytes((n + 7) // 8)
                for kind in (0, 1):
                    m = n if state else 0
                    self.assertEqual(judge(kind, page_of(0, state, n, m, body)), [int(state == right)])
        for state in range(256):
            body = (b"\x01" if state == 2 else b"") + s(7)
            self.assertEqual(judge(0, page_of(0, state, 1, 0, body)), [int(state == 0)])
            self.assertEqual(judge(0, page_of(0, state, 2, 1, b"\x01" + s(7))), [int(state == 2)])
        self.wrong(0, page_of(0, 1, 0, 0, b""))

    def test_the_heads_numbers(self):
        values = [5, 2 ** 60]
        body = plain(0, values)
        self.assertEqual(judge(0, page_of(0, 0, 2, 0, body)), [1])
        for zeros in (b"\1\0", b"\0\1", b"\xff\xff", b"\0\x80"):
            self.wrong(0, page_of(0, 0, 2, 0, body, zeros=zeros))
        for n in (0, 1, 3, 64, 65, 258, 2 ** 16 + 2, 2 ** 31 + 2, 2 ** 32 - 1):
            self.wrong(0, page_of(0, 0, n, 0, body))
        for m in (1, 2, 3, 256, 2 ** 32 - 1):
            self.wrong(0, page_of(0, 0, 2, m, body))
        for length in (0, 1, 15, 17, 16 + 256, 2 ** 32 - 1):
            self.wrong(0, page_of(0, 0, 2, 0, body, length=length))
        self.assertEqual(judge(0, page_of(0, 2, 3, 1, b"\x05" + body)), [1])
        for m in (0, 2, 3, 4, 2 ** 32 - 1):
            self.wrong(0, page_of(0, 2, 3, m, b"\x05" + body))

    def test_more_than_64_cells(self):
        for n in (65, 66, 255, 256, 1000, 2 ** 32 - 1):
            self.wrong(0, page_of(0, 1, n, n, b""))
            self.wrong(0, page_of(1, 0, n, 0, s(5)))
            self.wrong(1, page_of(1, 0, n, 0, u(1) + b"a"))
        self.wrong(0, right_page(0, [1] * 65))
        self.assertEqual(judge(0, right_page(0, [1] * 64)), [1])

    def test_dictionary_not_so(self):
        which = [0, 1] * 10
        right = dictionary(0, [LEAST, GREATEST], which)
        self.assertEqual(judge(0, page_of(3, 0, 20, 0, right)), [1])
        self.wrong(0, page_of(3, 0, 20, 0, dictionary(0, [GREATEST, LEAST], which)))
        self.wrong(0, page_of(3, 0, 20, 0, dictionary(0, [LEAST, LEAST], which)))
        self.wrong(0, page_of(3, 0, 20, 0, dictionary(0, [LEAST, 0, GREATEST], [0, 2] * 10)))
        self.wrong(0, page_of(3, 0, 20, 0, dictionary(0, [LEAST, 0, GREATEST], [0, 1, 2, 3] * 5)))
        self.wrong(0, page_of(3, 0, 20, 0, dictionary(0, [LEAST], [0] * 20)))
        self.wrong(0, page_of(3, 0, 20, 0, dictionary(0, [], [0] * 20)))
        self.wrong(0, page_of(3, 0, 20, 0, u(2 ** 32 - 1) + right[4:]))
        self.wrong(0, page_of(3, 0, 20, 0, u(21) + right[4:]))
        long, short = b"left" * 10, b"right" * 8
        self.assertEqual(judge(1, page_of(3, 0, 20, 0, dictionary(1, [long, short], which))), [1])
        self.wrong(1, page_of(3, 0, 20, 0, dictionary(1, [short, long], which)))
        self.wrong(1, page_of(3, 0, 20, 0, dictionary(1, [long, long], which)))
        same = [b"a" * 40, b"a" * 39]
        self.wrong(1, page_of(3, 0, 20, 0, dictionary(1, same, which)))
        self.assertEqual(judge(1, page_of(3, 0, 20, 0, dictionary(1, same[::-1], which))), [1])

    def test_runs_not_so(self):
        pairs = [(20, LEAST), (20, GREATEST), (24, 0)]
        self.assertEqual(judge(0, page_of(2, 0, 64, 0, runs(0, pairs))), [1])
        for wrong in ([(20, LEAST), (20, GREATEST), (12, 0), (12, 0)], [(0, 5)] + pairs, pairs + [(0, 5)],
                      [(20, LEAST), (20, LEAST), (24, 0)], [(20, LEAST), (20, GREATEST), (23, 0)],
                      [(20, LEAST), (20, GREATEST), (25, 0)], [(20, LEAST), (20, GREATEST), (2 ** 32 - 1, 0)],
                      pairs[:2], []):
            self.wrong(0, page_of(2, 0, 64, 0, runs(0, wrong)))
        for count in (0, 2, 4, 2 ** 32 - 1):
            self.wrong(0, page_of(2, 0, 64, 0, u(count) + runs(0, pairs)[4:]))
        pairs = [(20, b"left" * 10), (20, b"right"), (24, b"")]
        self.assertEqual(judge(1, page_of(2, 0, 64, 0, runs(1, pairs))), [1])
        self.wrong(1, page_of(2, 0, 64, 0, runs(1, pairs[:2] + [(12, b""), (12, b"")])))

    def test_shared_not_so(self):
        values = [b"a" * 30 + b"b", b"a" * 30 + b"c", b"a" * 30]
        right = [(0, values[0]), (30, b"c"), (30, b"")]
        self.assertEqual(judge(1, page_of(6, 0, 3, 0, shared(right))), [1])
        for at in (1, 2):
            for count in (0, 1, 29):
                wrong = list(right)
                wrong[at] = (count, values[at][count:])
                self.wrong(1, page_of(6, 0, 3, 0, shared(wrong)))
        for wrong in ([(1, values[0])] + right[1:], [(2 ** 32 - 1, values[0])] + right[1:],
                      right[:2] + [(2 ** 32 - 1, b"")], right[:2] + [(32, b"")],
                      right[:2], right + [(30, b"")]):
            self.wrong(1, page_of(6, 0, 3, 0, shared(wrong)))

    def test_from_the_least_not_so(self):
        numbers = [0, 1, 2, 3]
        self.assertEqual(judge(0, page_of(4, 0, 4, 0, from_least(9, 2, numbers))), [1])
        self.wrong(0, page_of(4, 0, 4, 0, from_least(9, 3, numbers)))
        self.wrong(0, page_of(4, 0, 4, 0, from_least(9, 2, [1, 2, 3, 3])))
        self.wrong(0, page_of(4, 0, 4, 0, from_least(9, 2, [0, 1, 1, 0])))
        self.wrong(0, page_of(4, 0, 4, 0, s(9) + b"\xff" + packed(2, numbers)))
        self.wrong(0, page_of(4, 0, 4, 0, s(9) + b"\xff" + packed(255, numbers)))
        self.assertEqual(judge(0, page_of(4, 0, 4, 0, from_least(GREATEST - 3, 2, numbers))), [1])
        for least in (GREATEST, GREATEST - 1, GREATEST - 2):
            self.wrong(0, page_of(4, 0, 4, 0, from_least(least, 2, numbers)))

    def test_differences_not_so(self):
        right = differences(5, 10 ** 9, 1, [0, 1, 0, 1])
        self.assertEqual(judge(0, page_of(5, 0, 5, 0, right)), [1])
        self.wrong(0, page_of(5, 0, 5, 0, differences(5, 10 ** 9, 2, [0, 1, 0, 1])))
        self.wrong(0, page_of(5, 0, 5, 0, differences(5, 10 ** 9, 1, [1, 1, 1, 1])))
        self.wrong(0, page_of(5, 0, 5, 0, differences(5, 10 ** 9, 1, [0, 0, 0, 0])))
        self.wrong(0, page_of(5, 0, 5, 0, right[:17] + b"\xff" + right[18:]))
        step = 2 ** 61
        self.assertEqual(judge(0, page_of(5, 0, 5, 0, differences(-2 ** 62, step, 0, [0] * 4))), [1])
        for first, least in ((0, step), (-2 ** 62 + 1, 2 ** 62), (LEAST, 2 ** 63), (0, -step - 1), (0, 2 ** 71 - 1),
                             (0, -2 ** 71), (LEAST, -1), (GREATEST, 1), (GREATEST - 3, 1), (0, 2 ** 64), (5, 2 ** 64 + 1)):
            self.wrong(0, page_of(5, 0, 5, 0, differences(first, least, 0, [0] * 4)))

    def test_rows_of_more_than_40_bytes(self):
        for count in (41, 100, 255, 256, 5000):
            row = b"a" * count
            self.wrong(1, page_of(0, 0, 1, 0, plain(1, [row])))
            self.wrong(1, page_of(1, 0, 2, 0, u(count) + row))
            self.wrong(1, page_of(2, 0, 64, 0, runs(1, [(32, row), (32, b"b")])))
            self.wrong(1, page_of(3, 0, 20, 0, dictionary(1, [row, b"b"], [0, 1] * 10)))
            self.wrong(1, page_of(6, 0, 2, 0, shared([(0, row), (count, b"")])))
        row = b"a" * 40
        self.wrong(1, page_of(6, 0, 3, 0, shared([(0, row), (40, b"b"), (40, b"c")])))

    def test_lengths_that_lead_nowhere(self):
        for count in (1, 5, 2 ** 31, 2 ** 32 - 1):
            self.wrong(1, page_of(0, 0, 1, 0, u(count)))
            self.wrong(1, page_of(1, 0, 2, 0, u(count)))
            self.wrong(1, page_of(2, 0, 2, 0, u(1) + u(2) + u(count)))
            self.wrong(1, page_of(3, 0, 2, 0, u(1) + u(count)))
            self.wrong(1, page_of(6, 0, 2, 0, u(0) + u(count)))
        for kind in (0, 1):
            for e in range(7):
                for n in (1, 2, 64):
                    self.wrong(kind, page_of(e, 0, n, 0, b""))
                    self.wrong(kind, page_of(e, 2, n + 1, 1, b""))


class Edges(unittest.TestCase):
    def test_kind(self):
        for kind in (2, 3, 256, TOP):
            for the_bytes in ([], [0], right_page(0, []), right_page(1, [b"a"]), [255] * 20000):
                self.assertEqual(judge(kind, the_bytes), [-1])

    def test_no_bytes(self):
        self.assertEqual(judge(0, []), [0])
        self.assertEqual(judge(1, []), [0])

    def test_longest_lists(self):
        draw = Draw(5)
        scattered = [draw.below(256) for _ in range(20000)]
        for kind in (0, 1):
            for byte in (0, 1, 2, 64, 255):
                self.assertEqual(judge(kind, [byte] * 20000), [0])
            self.assertEqual(judge(kind, scattered), [0])
            for e in range(7):
                for state in (0, 2):
                    for fill in (b"\0", b"\xff", b"\1\0\0\0", b"\x40\0\0\0"):
                        body = (fill * 20000)[:19980]
                        whole = page_of(e, state, 64, 1 if state else 0, body)
                        self.assertEqual(len(whole), 20000)
                        self.assertEqual(judge(kind, whole), [0])
        for kind, cells in sample_cells():
            right = right_page(kind, cells)
            self.assertEqual(judge(kind, right + [0] * (20000 - len(right))), [0])

    def test_handed_in_is_as_it_was(self):
        for kind, cells in sample_cells():
            for the_bytes in (right_page(kind, cells), right_page(kind, cells) + [1]):
                copy = list(the_bytes)
                first = judge(kind, the_bytes)
                self.assertEqual(the_bytes, copy)
                self.assertEqual(judge(kind, the_bytes), first)
                self.assertEqual(first[0].__class__, int)
