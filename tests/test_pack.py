import unittest

from helpers import TOP, Draw, packed
from pagefiles.pages import pack, unpack

WIDTHS = range(65)
COUNTS = (0, 1, 2, 7, 8, 9, 63, 64, 65, 255, 256)


def scattered(q, k):
    """k numbers below 2^q, the least and the greatest among them."""
    draw = Draw(1000 * q + k)
    return [draw.pick([0, 2 ** q - 1, (draw.below(2 ** 48) << 32 | draw.below(2 ** 48)) % 2 ** q]) for _ in range(k)]


def samples():
    return [(q, numbers) for q in WIDTHS for k in COUNTS
            for numbers in (scattered(q, k), [0] * k, [2 ** q - 1] * k)]


class Pack(unittest.TestCase):
    def test_written_by_hand(self):
        self.assertEqual(pack(3, [1, 2, 3]), [2, 2, 0b11010001, 0])
        self.assertEqual(pack(0, [0, 0, 0]), [0, 0])
        self.assertEqual(pack(1, [1, 0, 1, 1, 0, 0, 0, 1, 1]), [2, 2, 0b10001101, 1])
        self.assertEqual(pack(7, [127, 0, 127]), [3, 3, 127, 192, 31])
        self.assertEqual(pack(8, [0, 255, 7]), [3, 3, 0, 255, 7])
        self.assertEqual(pack(9, [256, 511]), [3, 3, 0, 255, 3])
        self.assertEqual(pack(63, [2 ** 63 - 1, 1]), [16, 16] + [255] * 7 + [255, 0] + [0] * 7)
        self.assertEqual(pack(64, [TOP, 1, 2 ** 63]), [24, 24] + [255] * 8 + [1] + [0] * 14 + [128])

    def test_no_numbers(self):
        for q in WIDTHS:
            self.assertEqual(pack(q, []), [0, 0])

    def test_each_width(self):
        for q, numbers in samples():
            expected = list(packed(q, numbers))
            self.assertEqual(len(expected), (q * len(numbers) + 7) // 8)
            self.assertEqual(pack(q, numbers), [len(expected)] * 2 + expected)

    def test_how_many_bytes(self):
        for q in WIDTHS:
            for k in range(0, 257, 5):
                size = (k * q + 7) // 8
                answer = pack(q, [2 ** q - 1] * k)
                self.assertEqual((answer[:2], len(answer)), ([size, size], size + 2))

    def test_0s_behind(self):
        for q in (1, 3, 7, 9, 63):
            for k in range(1, 10):
                last = pack(q, [2 ** q - 1] * k)[-1]
                self.assertEqual(last, 2 ** ((k * q - 1) % 8 + 1) - 1)


class PackRefused(unittest.TestCase):
    def test_q_above_64(self):
        for q in (65, 66, 72, 128, 255, 256, 2 ** 32, 2 ** 63, TOP):
            for numbers in ([], [0], [1], [TOP], [0] * 256, [0] * 257, [TOP] * 1000):
                self.assertEqual(pack(q, numbers), [-1])

    def test_more_than_256_numbers(self):
        for q in (0, 1, 8, 63, 64):
            self.assertEqual(pack(q, [0] * 256)[0], 32 * q)
            for k in (257, 258, 512, 1000):
                for number in (0, 2 ** q - 1, TOP):
                    self.assertEqual(pack(q, [number] * k), [-1])

    def test_number_of_2_to_the_q_or_above(self):
        for q in range(64):
            for number in (2 ** q, 2 ** q + 1, 2 ** (q + 1) - 1, 2 ** 63 + 2 ** q, TOP):
                top = 2 ** q - 1
                for numbers in ([number], [number, 0], [0, number], [top] * 255 + [number], [number] * 256):
                    self.assertEqual(pack(q, numbers), [-1])

    def test_of_0_bits_any_but_0(self):
        self.assertEqual(pack(0, [0] * 256), [0, 0])
        for number in (1, 2, 255, TOP):
            for numbers in ([number], [0, number], [number] + [0] * 255):
                self.assertEqual(pack(0, numbers), [-1])

    def test_of_64_bits_all_go(self):
        self.assertEqual(pack(64, [TOP] * 256), [2048, 2048] + [255] * 2048)


class Unpack(unittest.TestCase):
    def test_written_by_hand(self):
        self.assertEqual(unpack(3, 3, [0b11010001, 0]), [3, 3, 1, 2, 3])
        self.assertEqual(unpack(0, 3, []), [3, 3, 0, 0, 0])
        self.assertEqual(unpack(1, 9, [0b10001101, 1]), [9, 9, 1, 0, 1, 1, 0, 0, 0, 1, 1])
        self.assertEqual(unpack(8, 2, [0, 255]), [2, 2, 0, 255])
        self.assertEqual(unpack(9, 2, [0, 255, 3]), [2, 2, 256, 511])
        self.assertEqual(unpack(64, 1, [0] * 7 + [128]), [1, 1, 2 ** 63])

    def test_none(self):
        for q in WIDTHS:
            self.assertEqual(unpack(q, 0, []), [0, 0])

    def test_gives_back_what_pack_packed(self):
        for q, numbers in samples():
            k = len(numbers)
            self.assertEqual(unpack(q, k, pack(q, numbers)[2:]), [k, k] + numbers)

    def test_of_bytes_packed_plainly(self):
        for q, numbers in samples():
            k = len(numbers)
            self.assertEqual(unpack(q, k, list(packed(q, numbers))), [k, k] + numbers)

    def test_bits_behind_the_last_number(self):
        """The document names no refusal for them: the numbers are told as they stand."""
        self.assertEqual(unpack(3, 3, [0b11010001, 0b11111110]), [3, 3, 1, 2, 3])
        self.assertEqual(unpack(1, 1, [255]), [1, 1, 1])
        self.assertEqual(unpack(1, 1, [254]), [1, 1, 0])
        for q in (1, 3, 7, 9, 63):
            for k in (1, 2, 7, 9, 255):
                numbers = scattered(q, k)
                data = list(packed(q, numbers))
                data[-1] |= 256 - 2 ** ((k * q - 1) % 8 + 1)
                self.assertEqual(unpack(q, k, data), [k, k] + numbers)


class UnpackRefused(unittest.TestCase):
    def test_q_above_64(self):
        for q in (65, 66, 72, 128, 256, 2 ** 32, 2 ** 63, TOP):
            for k in (0, 1, 8, 256, 257, TOP):
                for data in ([], [0], [0] * q if q < 300 else [0] * 9, [255] * 20000):
                    self.assertEqual(unpack(q, k, data), [-1])

    def test_k_above_256(self):
        for q in (0, 1, 8, 63, 64):
            for k in (257, 258, 512, 2 ** 32, 2 ** 63, TOP):
                size = (k * q + 7) // 8
                for data in ([], [0], [0] * min(size, 20000), [255] * 20000):
                    self.assertEqual(unpack(q, k, data), [-1])

    def test_not_as_many_bytes(self):
        for q in WIDTHS:
            for k in COUNTS:
                size = (k * q + 7) // 8
                self.assertEqual(unpack(q, k, [0] * size), [k, k] + [0] * k)
                for other in {0, size - 8, size - 1, size + 1, size + 8, 2 * size, 20000} - {size}:
                    if other >= 0:
                        self.assertEqual(unpack(q, k, [0] * other), [-2])
                        self.assertEqual(unpack(q, k, [255] * other), [-2])

    def test_longest(self):
        self.assertEqual(unpack(64, 256, [255] * 2048), [256, 256] + [TOP] * 256)
        self.assertEqual(unpack(64, 256, [255] * 2047), [-2])
        self.assertEqual(unpack(64, 256, [255] * 20000), [-2])
        self.assertEqual(unpack(0, 256, []), [256, 256] + [0] * 256)
        self.assertEqual(unpack(0, 256, [0]), [-2])
        self.assertEqual(unpack(0, 0, [0]), [-2])


class ByItself(unittest.TestCase):
    def untouched(self, call, numbers):
        copy = list(numbers)
        first = call(numbers)
        self.assertEqual(numbers, copy)
        self.assertEqual({x.__class__ for x in first}, {int})
        first_copy = list(first)
        first.append(99)
        self.assertEqual(call(numbers), first_copy)

    def test_pack(self):
        for q in (0, 1, 9, 64, 65, TOP):
            for numbers in ([], [0], [0, 1, 2], [TOP], [0] * 256, [1] * 1000):
                self.untouched(lambda handed, q=q: pack(q, handed), numbers)

    def test_unpack(self):
        for q in (0, 1, 9, 64, 65, TOP):
            for k in (0, 1, 8, 256, 257):
                for data in ([], [0], [255] * k, [7] * min(k * q // 8, 2048)):
                    self.untouched(lambda handed, q=q, k=k: unpack(q, k, handed), data)
