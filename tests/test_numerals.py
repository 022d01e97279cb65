import unittest

from helpers import crc32c, packed
from pagefiles.numerals import check_bytes, check_number, number_at, number_bytes, packed_bytes, packed_numbers, signed_at


class Numerals(unittest.TestCase):
    def test_check_known_answers(self):
        self.assertEqual(check_number(0, []), 0)
        self.assertEqual(check_number(0, list(b"123456789")), 0xE3069283)
        self.assertEqual(check_number(0, [0] * 32), 0x8A9136AA)
        self.assertEqual(check_number(0, [255] * 32), 0x62A8AB43)
        self.assertEqual(check_number(0, list(range(32))), 0x46DD794E)
        self.assertEqual(check_bytes(list(b"123456789")), [0x83, 0x92, 0x06, 0xE3])

    def test_check_of_each_byte(self):
        for byte in range(256):
            self.assertEqual(check_number(0, [byte]), crc32c([byte]))

    def test_numbers_as_bytes(self):
        for width in (1, 4, 8, 9):
            half = 2 ** (8 * width - 1)
            for x in (0, 1, half - 1, -1, -half):
                the_bytes = list(x.to_bytes(width, "little", signed=True))
                self.assertEqual(number_bytes(x, width), the_bytes)
                self.assertEqual(signed_at([9] + the_bytes + [9], 1, width), x)
            top = 2 * half - 1
            self.assertEqual(number_bytes(top, width), [255] * width)
            self.assertEqual(number_at([9] + [255] * width + [9], 1, width), top)

    def test_packed(self):
        self.assertEqual(packed_bytes(0, [0, 0]), [])
        self.assertEqual(packed_bytes(3, [1, 2, 3]), [0b11010001, 0])
        for q in (1, 2, 7, 8, 9, 63, 64, 65):
            for k in (0, 1, 7, 8, 9, 64):
                numbers = [(2 ** q - 1) // (i + 1) for i in range(k)]
                self.assertEqual(bytes(packed_bytes(q, numbers)), packed(q, numbers))
                self.assertEqual(packed_numbers(q, k, packed_bytes(q, numbers)), numbers)
