"""Numbers that the tests share, and a second way to add singles, by Python's own floats."""

import math
import struct

NO_NUMBER_ANSWER = 4294967296

ZERO = 0x00000000
MINUS_ZERO = 0x80000000
ONE = 0x3F800000
MINUS_ONE = 0xBF800000
TWO = 0x40000000
THREE = 0x40400000
FIVE = 0x40A00000
EIGHT = 0x41000000
LARGEST = 0x7F7FFFFF
MINUS_LARGEST = 0xFF7FFFFF
INFINITY = 0x7F800000
MINUS_INFINITY = 0xFF800000

NO_NUMBERS = [
    0x7F800001, 0x7FA00000, 0x7FBFFFFF, 0x7FC00000, 0x7FC00001, 0x7FFFFFFF,
    0xFF800001, 0xFFA00000, 0xFFBFFFFF, 0xFFC00000, 0xFFC00001, 0xFFFFFFFF,
]


def bits_of(number):
    """The bits of the single nearest to a float; what is no number as it is answered."""
    if math.isnan(number):
        return NO_NUMBER_ANSWER
    try:
        return struct.unpack("<I", struct.pack("<f", number))[0]
    except OverflowError:
        return INFINITY if number > 0 else MINUS_INFINITY


def number_of(bits):
    return struct.unpack("<f", struct.pack("<I", bits))[0]


# A double has more than twice a single's bits and two, so that rounding to a double first and to
# a single then gives what rounding once does.
def reference_sum(x, y):
    return bits_of(number_of(x) + number_of(y))


def reference_difference(x, y):
    return bits_of(number_of(x) - number_of(y))


def many_singles():
    """Singles of either sign, near and far apart, with the fractions at which rounding turns."""
    exponents = [0, 1, 2, 3, 23, 24, 25, 26, 102, 103, 104, 126, 127, 128, 150, 151, 152, 229, 230, 253, 254, 255]
    fractions = [0, 1, 2, 3, 0x3FFFFF, 0x400000, 0x400001, 0x555555, 0x7FFFFE, 0x7FFFFF]
    return [
        sign + (exponent << 23) + fraction
        for sign in (0, 0x80000000)
        for exponent in exponents
        for fraction in fractions
    ]


def check_parts(test, call, beside, cases):
    """Asks for each (x, y, answer) in the real and in the imaginary part, with 5 and 3 in the other.

    beside is what the other part answers.
    """
    for x, y, answer in cases:
        with test.subTest(x=hex(x), y=hex(y)):
            test.assertEqual(call(x, FIVE, y, THREE), [answer, beside])
            test.assertEqual(call(FIVE, x, THREE, y), [beside, answer])
