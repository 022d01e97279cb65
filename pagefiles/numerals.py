"""Whole numbers as bytes, lowest byte first; packed numbers; the check."""

# What four steps of CRC-32C (polynomial 82F63B78, lowest bit first) make of
# each four lowest bits: two looks a byte instead of eight steps.
CHECK_STEPS = (
    0x00000000, 0x105EC76F, 0x20BD8EDE, 0x30E349B1,
    0x417B1DBC, 0x5125DAD3, 0x61C69362, 0x7198540D,
    0x82F63B78, 0x92A8FC17, 0xA24BB5A6, 0xB21572C9,
    0xC38D26C4, 0xD3D3E1AB, 0xE330A81A, 0xF36E6F75,
)
ALL_ONES = 0xFFFFFFFF


# Floor division and remainder give two's complement for numbers below 0.
def number_bytes(number, width):
    out = []
    rest = number
    for place in range(width):
        out.append(rest % 256)
        rest = rest // 256
    return out


# Bytes that aren't there count as 0: whoever asks compares the whole later.
def number_at(the_bytes, at, width):
    number = 0
    for byte in reversed(the_bytes[at:at + width]):
        number = number * 256 + byte
    return number


def signed_at(the_bytes, at, width):
    number = number_at(the_bytes, at, width)
    half = 1 << (8 * width - 1)
    return number - 2 * half if number >= half else number


def packed_width(q, k):
    return (k * q + 7) // 8


def packed_bytes(q, numbers):
    together = 0
    for number in reversed(numbers):
        together = (together << q) + number
    return number_bytes(together, packed_width(q, len(numbers)))


def packed_numbers(q, k, the_bytes):
    together = number_at(the_bytes, 0, packed_width(q, k))
    numbers = []
    for place in range(k):
        numbers.append(together % (1 << q))
        together = together >> q
    return numbers


def is_check(c):
    return 0 <= c <= ALL_ONES


# The check of these bytes behind others of which it's c. Of no bytes it's 0: with that c it begins with ones.
def check_number(c, the_bytes):
    state = c ^ ALL_ONES
    for byte in the_bytes:
        state = state ^ byte
        state = (state >> 4) ^ CHECK_STEPS[state % 16]
        state = (state >> 4) ^ CHECK_STEPS[state % 16]
    return state ^ ALL_ONES


def check_bytes(the_bytes):
    return number_bytes(check_number(0, the_bytes), 4)
