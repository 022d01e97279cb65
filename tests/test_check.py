import unittest

from helpers import TOP, Draw, crc32c, right_file, right_page
from pagefiles.pages import check

NINE = list(b"123456789")
ONES = 2 ** 32 - 1


def drawn_list(draw, count):
    return [draw.below(256) for _ in range(count)]


class Check(unittest.TestCase):
    def test_known_answers(self):
        self.assertEqual(check(0, []), [0])
        self.assertEqual(check(0, NINE), [3808858755])
        self.assertEqual(check(0, [0] * 32), [0x8A9136AA])
        self.assertEqual(check(0, [255] * 32), [0x62A8AB43])
        self.assertEqual(check(0, list(range(32))), [0x46DD794E])
        self.assertEqual(check(0, list(range(31, -1, -1))), [0x113FDB5C])

    def test_each_byte(self):
        for byte in range(256):
            self.assertEqual(check(0, [byte]), [crc32c([byte])])

    def test_in_two_however_cut(self):
        for data in ([], [0], [255], NINE, [0] * 20, list(range(256)), drawn_list(Draw(3), 100)):
            for cut in range(len(data) + 1):
                ahead = check(0, data[:cut])[0]
                self.assertEqual(check(ahead, data[cut:]), [crc32c(data)])

    def test_in_many_however_cut(self):
        draw = Draw(4)
        for _ in range(100):
            data, c = [], 0
            for _ in range(draw.below(9)):
                part = drawn_list(draw, draw.below(30))
                data += part
                c = check(c, part)[0]
            self.assertEqual(c, crc32c(data))
        c = 0
        for byte in NINE:
            c = check(c, [byte])[0]
        self.assertEqual(c, 3808858755)

    def test_nothing_behind(self):
        for c in (0, 1, 2, 255, 256, 2 ** 31, ONES - 1, ONES, 3808858755):
            self.assertEqual(check(c, []), [c])

    def test_greatest_check(self):
        self.assertEqual(check(0, [255] * 4), [ONES])
        self.assertEqual(check(ONES, NINE), [crc32c([255] * 4 + NINE)])
        self.assertEqual(check(ONES, [0]), [crc32c([255] * 4 + [0])])

    def test_of_others_whose_check_is_0(self):
        """Bytes ahead whose check is 0 count like none."""
        ahead = [171, 155, 224, 155]
        self.assertEqual(check(0, ahead), [0])
        self.assertEqual(check(0, ahead + NINE), [3808858755])

    def test_as_pages_and_files_have_it(self):
        for data in (right_page(0, [5, None, 7]), right_page(1, [b"", b"abc"]), right_page(0, []),
                     right_file(4, [0, 1], [])[:14]):
            self.assertEqual(list(check(0, data[:-4])[0].to_bytes(4, "little")), data[-4:])

    def test_100000_bytes(self):
        data = drawn_list(Draw(5), 100000)
        expected = crc32c(data)
        self.assertEqual(check(0, data), [expected])
        self.assertEqual(check(check(0, data[:41])[0], data[41:]), [expected])
        self.assertEqual(check(0, [0] * 100000), [crc32c([0] * 100000)])


class Refused(unittest.TestCase):
    def test_no_check(self):
        for c in (2 ** 32, 2 ** 32 + 1, 2 ** 33, 2 ** 40, 2 ** 63, TOP - 1, TOP):
            for data in ([], [0], NINE, [255] * 100000):
                self.assertEqual(check(c, data), [-1])


class ByItself(unittest.TestCase):
    def test_handed_in_is_as_it_was(self):
        for c in (0, 1, ONES, 2 ** 32, TOP):
            for data in ([], [0], NINE, [255] * 300):
                copy = list(data)
                first = check(c, data)
                self.assertEqual(data, copy)
                self.assertEqual([x.__class__ for x in first], [int])
                first_copy = list(first)
                first.append(99)
                self.assertEqual(check(c, data), first_copy)
